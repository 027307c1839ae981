import PyProof.Rows.All
import Wide.All
import OpenK.AllK
import Wide.FinOn
import HandS.ForMost
import HandS.IsInst
import HandS.Evl
import PySem.Challenge.RW_rankfall_k01_coins_shared
set_option Elab.async false
set_option linter.all false
set_option maxRecDepth 100000
set_option maxHeartbeats 4000000
namespace Rf
open PySem PySem.Spec PyProof.Rows L2
/-! ### sharing coin by coin -/
def g (l : List Int) (i : Nat) : Int := l.getD i 0
theorem g_get {l : List Int} {i : Nat} (h : i < l.length) : l[i]? = some (g l i) := by
  unfold g
  rw [List.getD_eq_getElem?_getD, List.getElem?_eq_getElem h]
  rfl
theorem g_of {l : List Int} {i : Nat} {x : Int} (h : l[i]? = some x) : g l i = x := by
  unfold g
  rw [List.getD_eq_getElem?_getD, h]
  rfl
theorem g_mem {l : List Int} {i : Nat} (h : i < l.length) : g l i ∈ l := List.mem_of_getElem? (g_get h)
theorem mem_g {l : List Int} {x : Int} (h : x ∈ l) : ∃ i, i < l.length ∧ g l i = x := by
  obtain ⟨i, hi, e⟩ := List.mem_iff_getElem.mp h
  exact ⟨i, hi, g_of (by rw [List.getElem?_eq_getElem hi, e])⟩
theorem g_set_same {l : List Int} {i : Nat} {x : Int} (h : i < l.length) : g (l.set i x) i = x := by
  apply g_of
  rw [List.getElem?_set_self h]
theorem g_set_ne {l : List Int} {i j : Nat} {x : Int} (h : i ≠ j) : g (l.set i x) j = g l j := by
  unfold g
  rw [List.getD_eq_getElem?_getD, List.getD_eq_getElem?_getD, List.getElem?_set_ne h]
theorem ext_g {l m : List Int} (hl : l.length = m.length) (h : ∀ i, i < l.length → g l i = g m i) : l = m := by
  apply List.ext_getElem? 
  intro i
  by_cases hi : i < l.length
  · rw [g_get hi, g_get (hl ▸ hi), h i hi]
  · rw [List.getElem?_eq_none (by omega), List.getElem?_eq_none (by omega)]
theorem sum_set_g : ∀ {l : List Int} {j : Nat} {y : Int}, j < l.length → (l.set j y).sum = l.sum - g l j + y
  | [], j, y, h => by simp at h
  | a :: r, 0, y, h => by
    show (y :: r).sum = (a :: r).sum - a + y
    rw [List.sum_cons, List.sum_cons]
    omega
  | a :: r, j + 1, y, h => by
    have ih := sum_set_g (l := r) (j := j) (y := y) (by simpa using h)
    show (a :: r.set j y).sum = (a :: r).sum - g r j + y
    rw [List.sum_cons, List.sum_cons, ih]
    omega
theorem sum_le_of : ∀ {l m : List Int}, l.length = m.length → (∀ i, i < l.length → g l i ≤ g m i) → l.sum ≤ m.sum
  | [], [], _, _ => Int.le_refl _
  | [], _ :: _, h, _ => by simp at h
  | _ :: _, [], h, _ => by simp at h
  | a :: r, b :: s, hl, h => by
    have h0 : a ≤ b := h 0 (by simp)
    have ih := sum_le_of (l := r) (m := s) (by simpa using hl) (fun i hi => h (i + 1) (by simpa using hi))
    rw [List.sum_cons, List.sum_cons]
    omega
theorem eq_of_sum_le : ∀ {l m : List Int}, l.length = m.length → (∀ i, i < l.length → g l i ≤ g m i) → m.sum ≤ l.sum → l = m
  | [], [], _, _, _ => rfl
  | [], _ :: _, h, _, _ => by simp at h
  | _ :: _, [], h, _, _ => by simp at h
  | a :: r, b :: s, hl, h, hs => by
    have h0 : a ≤ b := h 0 (by simp)
    have hr : ∀ i, i < r.length → g r i ≤ g s i := fun i hi => h (i + 1) (by simpa using hi)
    have hl2 : r.length = s.length := by simpa using hl
    have h1 := sum_le_of hl2 hr
    rw [List.sum_cons, List.sum_cons] at hs
    have e : a = b := by omega
    rw [e, eq_of_sum_le hl2 hr (by omega)]
theorem sum_nonneg {l : List Int} (h : ∀ i, i < l.length → 0 ≤ g l i) : 0 ≤ l.sum := by
  have := sum_le_of (l := List.replicate l.length 0) (m := l) (by simp) (fun i hi => by
    have e : g (List.replicate l.length 0) i = 0 := by
      apply g_of
      rw [List.getElem?_replicate, if_pos (by simpa using hi)]
    rw [e]
    exact h i (by simpa using hi))
  have e : (List.replicate l.length (0 : Int)).sum = 0 := by
    generalize l.length = n
    induction n with
    | zero => rfl
    | succ n ih => rw [List.replicate_succ, List.sum_cons, ih]; rfl
  omega

/-- the least part's first place among those that aren't full, of the first n -/
def firstUp (a p : List Int) : Nat → Option Nat
  | 0 => none
  | k + 1 => match firstUp a p k with
    | none => if g p k < g a k then some k else none
    | some f => if g p k < g a k ∧ g p k * g a f < g p f * g a k then some k else some f
/-- the next coin goes to it -/
def nextS (a p : List Int) : List Int := match firstUp a p a.length with
  | some f => p.set f (g p f + 1)
  | none => p
def steps (a : List Int) : Nat → List Int → List Int
  | 0, p => p
  | n + 1, p => nextS a (steps a n p)
def zeros (a : List Int) : List Int := List.replicate a.length 0
def shareN (a : List Int) (n : Nat) : List Int := steps a n (zeros a)
/-- what each amount gets of c coins -/
def share (a : List Int) (c : Int) : List Int := shareN a (min c a.sum).toNat

theorem firstUp_none {a p : List Int} : ∀ {n : Nat}, firstUp a p n = none → ∀ j, j < n → ¬ g p j < g a j
  | 0, _, j, hj => absurd hj (Nat.not_lt_zero _)
  | k + 1, h, j, hj => by
    unfold firstUp at h
    cases e : firstUp a p k with
    | none =>
      rw [e] at h
      simp only at h
      by_cases hk : g p k < g a k
      · rw [if_pos hk] at h; cases h
      · by_cases hjk : j = k
        · subst hjk; exact hk
        · exact firstUp_none e j (by omega)
    | some f =>
      rw [e] at h
      simp only at h
      split at h <;> cases h
/-- what the chosen one is -/
structure IsFirst (a p : List Int) (n f : Nat) : Prop where
  lt : f < n
  room : g p f < g a f
  least : ∀ j, j < n → g p j < g a j → g p f * g a j < g p j * g a f ∨ (g p f * g a j = g p j * g a f ∧ f ≤ j)
/-- comparing parts is transitive -/
theorem part_trans {x y z a b c : Int} (ha : 0 < a) (hb : 0 < b) (hc : 0 < c) (h1 : x * b ≤ y * a) (h2 : y * c ≤ z * b) : x * c ≤ z * a := by
  have e1 : x * b * c ≤ y * a * c := Int.mul_le_mul_of_nonneg_right h1 (by omega)
  have e2 : y * c * a ≤ z * b * a := Int.mul_le_mul_of_nonneg_right h2 (by omega)
  have e3 : y * a * c = y * c * a := by rw [Int.mul_assoc, Int.mul_comm a c, ← Int.mul_assoc]
  have e4 : x * b * c = x * c * b := by rw [Int.mul_assoc, Int.mul_comm b c, ← Int.mul_assoc]
  have e5 : z * b * a = z * a * b := by rw [Int.mul_assoc, Int.mul_comm b a, ← Int.mul_assoc]
  have e6 : x * c * b ≤ z * a * b := by rw [← e4, ← e5]; omega
  exact Int.le_of_mul_le_mul_right e6 hb
theorem part_trans_lt {x y z a b c : Int} (ha : 0 < a) (hb : 0 < b) (hc : 0 < c) (h1 : x * b < y * a) (h2 : y * c ≤ z * b) : x * c < z * a := by
  have e1 : x * b * c < y * a * c := Int.mul_lt_mul_of_pos_right h1 hc
  have e2 : y * c * a ≤ z * b * a := Int.mul_le_mul_of_nonneg_right h2 (by omega)
  have e3 : y * a * c = y * c * a := by rw [Int.mul_assoc, Int.mul_comm a c, ← Int.mul_assoc]
  have e4 : x * b * c = x * c * b := by rw [Int.mul_assoc, Int.mul_comm b c, ← Int.mul_assoc]
  have e5 : z * b * a = z * a * b := by rw [Int.mul_assoc, Int.mul_comm b a, ← Int.mul_assoc]
  have e6 : x * c * b < z * a * b := by rw [← e4, ← e5]; omega
  exact Int.lt_of_mul_lt_mul_right e6 (by omega)
theorem firstUp_some {a p : List Int} (pos : ∀ i, i < a.length → 0 < g a i) : ∀ {n : Nat} {f : Nat}, n ≤ a.length → firstUp a p n = some f → IsFirst a p n f
  | 0, f, _, h => by cases h
  | k + 1, f, hn, h => by
    unfold firstUp at h
    have pk : 0 < g a k := pos k (by omega)
    cases e : firstUp a p k with
    | none =>
      rw [e] at h
      simp only at h
      by_cases hk : g p k < g a k
      · rw [if_pos hk] at h; cases h
        refine ⟨Nat.lt_succ_self _, hk, fun j hj hlt => ?_⟩
        by_cases hjk : j = k
        · subst hjk; exact .inr ⟨rfl, Nat.le_refl _⟩
        · exact absurd hlt (firstUp_none e j (by omega))
      · rw [if_neg hk] at h; cases h
    | some f' =>
      rw [e] at h
      simp only at h
      have F := firstUp_some pos (n := k) (by omega) e
      have pf : 0 < g a f' := pos f' (by have := F.lt; omega)
      by_cases hk : g p k < g a k ∧ g p k * g a f' < g p f' * g a k
      · rw [if_pos hk] at h; cases h
        refine ⟨Nat.lt_succ_self _, hk.1, fun j hj hlt => ?_⟩
        by_cases hjk : j = k
        · subst hjk; exact .inr ⟨rfl, Nat.le_refl _⟩
        · left
          have pj : 0 < g a j := pos j (by omega)
          have h1 := hk.2
          have h2 : g p f' * g a j ≤ g p j * g a f' := by
            rcases F.least j (by omega) hlt with q | q <;> omega
          exact part_trans_lt (a := g a k) (b := g a f') (c := g a j) pk pf pj h1 h2
      · rw [if_neg hk] at h; cases h
        refine ⟨by have := F.lt; omega, F.room, fun j hj hlt => ?_⟩
        by_cases hjk : j = k
        · subst hjk
          have : ¬ g p j * g a f < g p f * g a j := fun z => hk ⟨hlt, z⟩
          by_cases e1 : g p f * g a j = g p j * g a f
          · exact .inr ⟨e1, by have := F.lt; omega⟩
          · exact .inl (by omega)
        · exact F.least j (by omega) hlt

/-- a state of the sharing -/
structure Valid (a p : List Int) : Prop where
  len : p.length = a.length
  lo : ∀ i, i < a.length → 0 ≤ g p i
  hi : ∀ i, i < a.length → g p i ≤ g a i
  ord : ∀ i j, i < a.length → j < a.length → 0 < g p i → g p j < g a j → (g p i - 1) * g a j < g p j * g a i ∨ ((g p i - 1) * g a j = g p j * g a i ∧ i < j)
theorem valid_zeros {a : List Int} (pos : ∀ i, i < a.length → 0 < g a i) : Valid a (zeros a) := by
  have z : ∀ i, i < a.length → g (zeros a) i = 0 := fun i hi => by
    apply g_of
    unfold zeros
    rw [List.getElem?_replicate, if_pos hi]
  refine ⟨by simp [zeros], fun i hi => by rw [z i hi]; omega, fun i hi => by rw [z i hi]; have := pos i hi; omega, fun i j hi hj h => ?_⟩
  rw [z i hi] at h
  omega
theorem valid_full {a : List Int} (pos : ∀ i, i < a.length → 0 < g a i) : Valid a a :=
  ⟨rfl, fun i hi => by have := pos i hi; omega, fun i _ => Int.le_refl _, fun i j _ _ _ h => absurd h (Int.lt_irrefl _)⟩
theorem Valid.sum_le {a p : List Int} (V : Valid a p) : p.sum ≤ a.sum := sum_le_of V.len fun i hi => V.hi i (V.len ▸ hi)
theorem Valid.sum_nn {a p : List Int} (V : Valid a p) : 0 ≤ p.sum := sum_nonneg fun i hi => V.lo i (V.len ▸ hi)
theorem Valid.full {a p : List Int} (V : Valid a p) (h : a.sum ≤ p.sum) : p = a := eq_of_sum_le V.len (fun i hi => V.hi i (V.len ▸ hi)) h
theorem Valid.unique {a p q : List Int} (V : Valid a p) (W : Valid a q) (h : p.sum = q.sum) (pos : ∀ i, i < a.length → 0 < g a i) : p = q := by
  by_cases h1 : ∀ i, i < a.length → g p i ≤ g q i
  · exact eq_of_sum_le (V.len.trans W.len.symm) (fun i hi => h1 i (V.len ▸ hi)) (by omega)
  · by_cases h2 : ∀ i, i < a.length → g q i ≤ g p i
    · exact (eq_of_sum_le (W.len.trans V.len.symm) (fun i hi => h2 i (W.len ▸ hi)) (by omega)).symm
    · exfalso
      have h1' : ∃ i, i < a.length ∧ g q i < g p i := Classical.byContradiction fun c => h1 fun i hi => Int.not_lt.mp fun z => c ⟨i, hi, z⟩
      have h2' : ∃ j, j < a.length ∧ g p j < g q j := Classical.byContradiction fun c => h2 fun i hi => Int.not_lt.mp fun z => c ⟨i, hi, z⟩
      obtain ⟨i, hi, di⟩ := h1'
      obtain ⟨j, hj, dj⟩ := h2'
      have ai := pos i hi
      have aj := pos j hj
      have k1 := V.ord i j hi hj (by have := W.lo i hi; omega) (by have := W.hi j hj; omega)
      have k2 := W.ord j i hj hi (by have := V.lo j hj; omega) (by have := V.hi i hi; omega)
      have m1 : g q i * g a j ≤ (g p i - 1) * g a j := Int.mul_le_mul_of_nonneg_right (by omega) (by omega)
      have m2 : g p j * g a i ≤ (g q j - 1) * g a i := Int.mul_le_mul_of_nonneg_right (by omega) (by omega)
      rcases k1 with k1 | ⟨k1, o1⟩ <;> rcases k2 with k2 | ⟨k2, o2⟩ <;> omega
theorem valid_next {a p : List Int} (pos : ∀ i, i < a.length → 0 < g a i) (V : Valid a p) {f : Nat} (F : IsFirst a p a.length f) : Valid a (p.set f (g p f + 1)) := by
  have fl : f < p.length := V.len.symm ▸ F.lt
  refine ⟨by rw [List.length_set]; exact V.len, fun i hi => ?_, fun i hi => ?_, fun i j hi hj h1 h2 => ?_⟩
  · by_cases e : f = i
    · subst e; rw [g_set_same fl]; have := V.lo f hi; omega
    · rw [g_set_ne e]; exact V.lo i hi
  · by_cases e : f = i
    · subst e; rw [g_set_same fl]; have := F.room; omega
    · rw [g_set_ne e]; exact V.hi i hi
  · have ai := pos i hi
    have aj := pos j hj
    by_cases ei : f = i
    · subst ei
      rw [g_set_same fl] at h1 ⊢
      by_cases ej : f = j
      · subst ej
        rw [g_set_same fl] at h2 ⊢
        left
        exact Int.mul_lt_mul_of_pos_right (by omega) aj
      · rw [g_set_ne ej] at h2 ⊢
        have e0 : g p f + 1 - 1 = g p f := by omega
        rw [e0]
        rcases F.least j hj h2 with q | ⟨q, r⟩
        · exact .inl q
        · exact .inr ⟨q, by omega⟩
    · rw [g_set_ne ei] at h1 ⊢
      by_cases ej : f = j
      · subst ej
        rw [g_set_same fl] at h2 ⊢
        left
        have k := V.ord i f hi hj h1 (by omega)
        have m : g p f * g a i < (g p f + 1) * g a i := Int.mul_lt_mul_of_pos_right (by omega) ai
        rcases k with k | ⟨k, _⟩ <;> omega
      · rw [g_set_ne ej] at h2 ⊢
        exact V.ord i j hi hj h1 h2
theorem exists_first {a p : List Int} (V : Valid a p) (h : p.sum < a.sum) (pos : ∀ i, i < a.length → 0 < g a i) : ∃ f, firstUp a p a.length = some f ∧ IsFirst a p a.length f := by
  cases e : firstUp a p a.length with
  | some f => exact ⟨f, rfl, firstUp_some pos (Nat.le_refl _) e⟩
  | none =>
    exfalso
    have h1 := firstUp_none e
    have h2 := sum_le_of (l := a) (m := p) V.len.symm fun i hi => Int.not_lt.mp (h1 i hi)
    omega
theorem nextS_of {a p : List Int} {f : Nat} (h : firstUp a p a.length = some f) : nextS a p = p.set f (g p f + 1) := by
  unfold nextS
  rw [h]
theorem next_ok {a p : List Int} (pos : ∀ i, i < a.length → 0 < g a i) (V : Valid a p) (h : p.sum < a.sum) : Valid a (nextS a p) ∧ (nextS a p).sum = p.sum + 1 := by
  obtain ⟨f, e, F⟩ := exists_first V h pos
  have fl : f < p.length := V.len.symm ▸ F.lt
  rw [nextS_of e]
  refine ⟨valid_next pos V F, ?_⟩
  rw [sum_set_g fl]
  omega
theorem steps_ok {a p : List Int} (pos : ∀ i, i < a.length → 0 < g a i) (V : Valid a p) : ∀ n : Nat, p.sum + n ≤ a.sum → Valid a (steps a n p) ∧ (steps a n p).sum = p.sum + n
  | 0, _ => ⟨V, by simp [steps]⟩
  | n + 1, h => by
    obtain ⟨V1, s1⟩ := steps_ok pos V n (by omega)
    obtain ⟨V2, s2⟩ := next_ok pos V1 (by rw [s1]; omega)
    exact ⟨V2, by show (nextS a (steps a n p)).sum = _; rw [s2, s1]; omega⟩
theorem zeros_sum (a : List Int) : (zeros a).sum = 0 := by
  unfold zeros
  generalize a.length = n
  induction n with
  | zero => rfl
  | succ n ih => rw [List.replicate_succ, List.sum_cons, ih]; rfl
def AllPos (a : List Int) : Prop := ∀ i, i < a.length → 0 < g a i
theorem AllPos.of {a : List Int} (h : ∀ x ∈ a, 0 < x) : AllPos a := fun _ hi => h _ (g_mem hi)
theorem AllPos.sum_nn {a : List Int} (h : AllPos a) : 0 ≤ a.sum := sum_nonneg fun i hi => Int.le_of_lt (h i hi)
theorem share_ok {a : List Int} {c : Int} (pos : AllPos a) (hc : 0 ≤ c) : Valid a (share a c) ∧ (share a c).sum = min c a.sum := by
  have h0 := pos.sum_nn
  have z := zeros_sum a
  obtain ⟨V, s⟩ := steps_ok pos (valid_zeros pos) (min c a.sum).toNat (by rw [z]; omega)
  refine ⟨V, ?_⟩
  show (steps a _ (zeros a)).sum = _
  rw [s, z]
  omega
theorem share_unique {a p : List Int} {c : Int} (pos : AllPos a) (hc : 0 ≤ c) (V : Valid a p) (h : p.sum = min c a.sum) : p = share a c := by
  obtain ⟨W, s⟩ := share_ok pos hc
  exact V.unique W (by rw [h, s]) pos
theorem share_next {a : List Int} {c : Int} (pos : AllPos a) (hc : 0 ≤ c) (h : c < a.sum) : share a (c + 1) = nextS a (share a c) := by
  obtain ⟨W, s⟩ := share_ok pos hc
  obtain ⟨V2, s2⟩ := next_ok pos W (by rw [s]; omega)
  exact (share_unique pos (by omega) V2 (by rw [s2, s]; omega)).symm

/-! ### the program's jump -/
def partsOf (a : List Int) (c : Int) : Int := max 0 (c - a.length + 1)
def startAt (a : List Int) (p : Int) : List Int := a.map fun x => -((-x * p) / a.sum)
theorem g_map {l : List Int} {f : Int → Int} {i : Nat} (h : i < l.length) : g (l.map f) i = f (g l i) := by
  apply g_of
  rw [List.getElem?_map, g_get h]
  rfl
theorem ceil_ge {x p q : Int} (hq : 0 < q) : x * p ≤ -((-x * p) / q) * q := by
  have h := Int.ediv_mul_le (-x * p) (b := q) (by omega)
  have e : -x * p = -(x * p) := Int.neg_mul x p
  rw [Int.neg_mul]
  omega
theorem ceil_lt {x p q : Int} (hq : 0 < q) : (-((-x * p) / q) - 1) * q < x * p := by
  have h := Int.lt_ediv_add_one_mul_self (-x * p) hq
  have e : -x * p = -(x * p) := Int.neg_mul x p
  have e2 : (-((-x * p) / q) - 1) * q = -(((-x * p) / q + 1) * q) := by
    rw [← Int.neg_mul]
    congr 1
    omega
  rw [e2]
  omega
theorem start_valid {a : List Int} {p : Int} (pos : AllPos a) (h0 : 0 ≤ p) (h1 : p ≤ a.sum) (hq : 0 < a.sum) : Valid a (startAt a p) := by
  have sg : ∀ i, i < a.length → g (startAt a p) i = -((-(g a i) * p) / a.sum) := fun i hi => g_map hi
  have ge : ∀ i, i < a.length → g a i * p ≤ g (startAt a p) i * a.sum := fun i hi => by rw [sg i hi]; exact ceil_ge hq
  have lt : ∀ i, i < a.length → (g (startAt a p) i - 1) * a.sum < g a i * p := fun i hi => by rw [sg i hi]; exact ceil_lt hq
  refine ⟨by simp [startAt], fun i hi => ?_, fun i hi => ?_, fun i j hi hj h _ => ?_⟩
  · have ai := pos i hi
    have h2 := ge i hi
    have h3 : 0 ≤ g a i * p := Int.mul_nonneg (by omega) h0
    have h4 : 0 * a.sum ≤ g (startAt a p) i * a.sum := by rw [Int.zero_mul]; omega
    exact Int.le_of_mul_le_mul_right h4 hq
  · have ai := pos i hi
    have h2 := lt i hi
    have h3 : g a i * p ≤ g a i * a.sum := Int.mul_le_mul_of_nonneg_left h1 (by omega)
    have h4 : (g (startAt a p) i - 1) * a.sum < g a i * a.sum := by omega
    have := Int.lt_of_mul_lt_mul_right h4 (by omega)
    omega
  · left
    have ai := pos i hi
    have aj := pos j hj
    have l1 : (g (startAt a p) i - 1) * a.sum * g a j < g a i * p * g a j := Int.mul_lt_mul_of_pos_right (lt i hi) aj
    have l2 : g a j * p * g a i ≤ g (startAt a p) j * a.sum * g a i := Int.mul_le_mul_of_nonneg_right (ge j hj) (by omega)
    have e1 : g a i * p * g a j = g a j * p * g a i := by rw [Int.mul_right_comm, Int.mul_comm (g a i) (g a j), Int.mul_right_comm]
    have e2 : (g (startAt a p) i - 1) * a.sum * g a j = (g (startAt a p) i - 1) * g a j * a.sum := Int.mul_right_comm _ _ _
    have e3 : g (startAt a p) j * a.sum * g a i = g (startAt a p) j * g a i * a.sum := Int.mul_right_comm _ _ _
    have h4 : (g (startAt a p) i - 1) * g a j * a.sum < g (startAt a p) j * g a i * a.sum := by rw [← e2, ← e3]; omega
    exact Int.lt_of_mul_lt_mul_right h4 (by omega)
theorem sum_mul : ∀ (l : List Int) (p : Int), (l.map fun x => x * p).sum = l.sum * p
  | [], p => by simp
  | x :: r, p => by rw [List.map_cons, List.sum_cons, List.sum_cons, sum_mul r p, Int.add_mul]
theorem sum_ceil {q p : Int} (hq : 0 < q) : ∀ (l : List Int), ((l.map fun x => -((-x * p) / q)).sum - l.length) * q ≤ l.sum * p
  | [] => by simp
  | x :: r => by
    have ih := sum_ceil (q := q) (p := p) hq r
    have h := ceil_lt (x := x) (p := p) hq
    rw [List.map_cons, List.sum_cons, List.sum_cons, Int.add_mul, List.length_cons]
    have e : (-((-x * p) / q) + (r.map fun x => -((-x * p) / q)).sum - ((r.length + 1 : Nat) : Int)) = (-((-x * p) / q) - 1) + ((r.map fun x => -((-x * p) / q)).sum - (r.length : Int)) := by omega
    rw [e, Int.add_mul]
    omega
theorem sum_ceil_lt {q p : Int} (hq : 0 < q) : ∀ (l : List Int), l ≠ [] → ((l.map fun x => -((-x * p) / q)).sum - l.length) * q < l.sum * p
  | [], h => absurd rfl h
  | x :: r, _ => by
    have ih := sum_ceil (q := q) (p := p) hq r
    have h := ceil_lt (x := x) (p := p) hq
    rw [List.map_cons, List.sum_cons, List.sum_cons, Int.add_mul, List.length_cons]
    have e : (-((-x * p) / q) + (r.map fun x => -((-x * p) / q)).sum - ((r.length + 1 : Nat) : Int)) = (-((-x * p) / q) - 1) + ((r.map fun x => -((-x * p) / q)).sum - (r.length : Int)) := by omega
    rw [e, Int.add_mul]
    omega
theorem start_sum {a : List Int} {c : Int} (pos : AllPos a) (hc : 0 ≤ c) (h : c < a.sum) : (startAt a (partsOf a c)).sum ≤ c := by
  have hq : 0 < a.sum := by omega
  have ne : a ≠ [] := fun z => by subst z; simp at h; omega
  unfold partsOf
  by_cases hp : 0 ≤ c - a.length + 1
  · rw [Int.max_eq_right hp]
    have h2 := sum_ceil_lt (q := a.sum) (p := c - a.length + 1) hq a ne
    rw [Int.mul_comm a.sum] at h2
    have := Int.lt_of_mul_lt_mul_right h2 (by omega)
    show (a.map _).sum ≤ c
    omega
  · rw [Int.max_eq_left (by omega)]
    have e : startAt a 0 = zeros a := by
      unfold startAt zeros
      apply List.ext_getElem?
      intro i
      rw [List.getElem?_map, List.getElem?_replicate]
      by_cases hi : i < a.length
      · rw [g_get hi, if_pos hi]
        simp
      · rw [List.getElem?_eq_none (by omega), if_neg hi]
        rfl
    rw [e, zeros_sum]
    exact hc
/-- the program's sharing is the coins' -/
theorem prog_share {a : List Int} {c : Int} (pos : AllPos a) (hc : 0 ≤ c) (h : c < a.sum) : steps a (c - (startAt a (partsOf a c)).sum).toNat (startAt a (partsOf a c)) = share a c := by
  have hs := start_sum pos hc h
  have ne : a ≠ [] := fun z => by subst z; simp at h; omega
  have hl : 0 < a.length := List.length_pos_iff.mpr ne
  have V := start_valid (a := a) (p := partsOf a c) pos (by unfold partsOf; omega) (by unfold partsOf; omega) (by omega)
  obtain ⟨W, s⟩ := steps_ok pos V (c - (startAt a (partsOf a c)).sum).toNat (by omega)
  exact share_unique pos hc W (by rw [s]; omega)
theorem full_share {a : List Int} {c : Int} (pos : AllPos a) (hc : 0 ≤ c) (h : a.sum ≤ c) : a = share a c :=
  share_unique pos hc (valid_full pos) (by omega)


end Rf
namespace Rf
open PySem PySem.Spec PyProof.Rows L2
/-! ### the text by places -/
def top (i : Nat) : Stmt := PySem.Challenge.pw_rankfall_k01_coins_shared.main.body.getD i (.Pass ⟨0, 0, 0, 0⟩)
abbrev s_next : Stmt := top 5
abbrev s_first : Stmt := top 6
abbrev s_lshared : Stmt := top 7
abbrev s_are : Stmt := top 8
abbrev s_isnext : Stmt := top 9
abbrev s_first_coins : Stmt := top 2
abbrev s_least_paid : Stmt := top 3
abbrev s_shared : Stmt := top 1
abbrev s_law : Stmt := top 10


end Rf
namespace Rf
open PySem PySem.Spec PyProof.Rows L2
/-! ### rules that the modules lack -/
section
variable {X : Cx}
theorem get_list : PGet X (rIxL X.K) := by
  intro pins s σ H o i ov iv Q I ro ri h
  obtain ⟨p, xs, k, z, rfl, rfl, hq, he, q⟩ := h
  cases ro
  obtain ⟨t, rfl⟩ := ri
  obtain ⟨its, r, pl, hz⟩ := I.list hq
  obtain ⟨j, h1, h2, h3, h4, h5⟩ := atI_get he
  obtain ⟨w, ew, rw'⟩ := r.get h2
  have hl := r.length
  have hn := line63
  have fin : EP X pins σ Q w s := ⟨z, H, I, rw', q⟩
  by_cases h0 : 0 ≤ k
  · have hj : k.toNat = j := by
      rw [seqIndex_of h0 h5] at h1
      exact Option.some.inj h1
    exact wpAny_getItem_list pl.isList h0 (by omega) (by rw [hj]; simpa using ew) fin
  · have hj : (k + (its.toArray.size : Int)).toNat = j := by
      rw [seqIndex_neg (by omega) h4] at h1
      rw [List.size_toArray, ← hl]
      exact Option.some.inj h1
    exact wpAny_getItem_list_neg pl.isList (by omega) (by rw [List.size_toArray] <;> omega) (by omega) (by rw [hj]; simpa using ew) fin
end
theorem dec_t {p : Prop} [Decidable p] (h : p) : V.bl (decide p) = V.bl true := congrArg V.bl (decide_eq_true h)
theorem dec_f {p : Prop} [Decidable p] (h : ¬ p) : V.bl (decide p) = V.bl false := congrArg V.bl (decide_eq_false h)
theorem dec_vint {i j : Int} : decide (V.int i = V.int j) = decide (i = j) := by
  rw [dec_int]
  by_cases h : i = j
  · rw [h]; simp
  · simp [h]
/-- len, list, tuple by values -/
def rLen (K : PySem.W.Frag) : List V → Hp → VK → Prop := fun xs H Q => ∃ p ys, xs = [.ref p] ∧ (SqL K H p ys ∨ SqT K H p ys) ∧ Q (.int ys.length) H
def rListOf (K : PySem.W.Frag) : List V → Hp → VK → Prop := fun xs H Q => ∃ p ys, xs = [.ref p] ∧ (SqL K H p ys ∨ SqT K H p ys) ∧ ∀ l, H l = none → Q (.ref l) (upd H l (.lst ys))
def rTupleOf (K : PySem.W.Frag) : List V → Hp → VK → Prop := fun xs H Q => ∃ p ys, xs = [.ref p] ∧ ((SqL K H p ys ∧ ∀ l, H l = none → Q (.ref l) (upd H l (.tup ys))) ∨ (SqT K H p ys ∧ Q (.ref p) H))
theorem call_len {X : Cx} : CallR X (.builtin "len") (rLen X.K) := call_len_seq
theorem call_listOf {X : Cx} : CallR X (.type "list") (rListOf X.K) := call_list_of
theorem call_tupleOf {X : Cx} : CallR X (.type "tuple") (rTupleOf X.K) := call_tuple_of
/-- a def of the top, as the walk asks for it -/
structure DefAt (K : PySem.W.Frag) (mg : Str → Option Value) (x : Str) (st : Stmt) (ps : List Str) (f : Addr) (fd : FuncData) : Prop where
  F : Fun K x x st f fd
  b : Binds K fd ps []
  g : mg x = some (.ref f)
theorem atI_g {l : List Int} {i : Int} {j : Nat} (e : i = (j : Int)) (h : j < l.length) : atI (l.map V.int) i = some (.int (g l j)) := by
  rw [e]
  apply atI_nat
  rw [List.getElem?_map, g_get h]
  rfl
theorem ixN_nat {n j : Nat} {i : Int} (e : i = (j : Int)) (h : j < n) : ixN n i = some j := by
  unfold ixN
  rw [if_pos (by omega), if_pos (by omega)]
  rw [e]
  rfl
theorem map_set {l : List Int} {j : Nat} {y : Int} : (l.map V.int).set j (.int y) = (l.set j y).map V.int := by
  rw [List.map_set]
/-- all that was tracked but at S stands -/
def Off (S : Addr → Prop) (H H' : Hp) : Prop := ∀ b o, H b = some o → ¬ S b → H' b = some o
theorem Off.refl {S : Addr → Prop} {H : Hp} : Off S H H := fun _ _ h _ => h
theorem Off.trans {S : Addr → Prop} {H H1 H2 : Hp} (a : Off S H H1) (b : Off S H1 H2) : Off S H H2 := fun x o h n => b x o (a x o h n) n
theorem Off.same {S : Addr → Prop} {H H1 : Hp} (a : Same H H1) : Off S H H1 := fun x o h _ => a x o h
theorem Same.off {S : Addr → Prop} {H H1 : Hp} (a : Same H H1) : Off S H H1 := fun x o h _ => a x o h
theorem Same.new {H : Hp} {p : Addr} {o : HO} (h : H p = none) : Same H (upd H p o) := fun b x e => by
  rw [upd_ne (ne_of_none e h)]
  exact e
theorem Same.mut {H H' : Hp} {p : Addr} {o : HO} (e : Same H H') (h : H p = none) : Same H (upd H' p o) := fun a u ha => by
  rw [upd_ne (ne_of_none ha h)]
  exact e a u ha
theorem sq_of {K : PySem.W.Frag} {H : Hp} {a : Addr} {xs : List V} (h : H a = some (.lst xs)) : SqL K H a xs := .inl (.inl h)
theorem st_of {K : PySem.W.Frag} {H : Hp} {a : Addr} {xs : List V} (h : H a = some (.tup xs)) : SqT K H a xs := .inl (.inl h)
theorem sz_of {n : Nat} (h : n ≤ 100000) : n ≤ sizeLine := Nat.le_trans h (by decide)
theorem sz_lt {n : Nat} (h : n < 100000) : n < sizeLine := Nat.lt_of_lt_of_le h (by decide)
/-! ### statements, one by one: what a part gives, then what follows -/
section
variable {te : TE} {g : TG} {t u tz : TS} {c : TT} {D : Ends} {σ : L2.St} {H : Hp} {i : Nat}
/-- name = e; what e leaves: R -/
theorem sq_set (R : V → Hp → Prop) (h : ∀ Q : VK, (∀ v H', R v H' → Q v H') → te σ H Q) (k : ∀ v H', R v H' → tz D (σ.set i (some v)) H') : tSeq (tAsg te (gName i)) tz D σ H := h _ k
/-- name = e, a value -/
theorem sq_val (v : V) (h : ∀ Q : VK, Q v H → te σ H Q) (k : tz D (σ.set i (some v)) H) : tSeq (tAsg te (gName i)) tz D σ H := h _ k
/-- name = e, an object -/
theorem sq_new (o : HO) (h : ∀ Q : VK, (∀ p H', H p = none → Same H H' → H' p = some o → Q (.ref p) H') → te σ H Q) (k : ∀ p H', H p = none → Same H H' → H' p = some o → tz D (σ.set i (some (.ref p))) H') : tSeq (tAsg te (gName i)) tz D σ H := h _ k
theorem sq_asg (R : V → Hp → Prop) (h : ∀ Q : VK, (∀ v H', R v H' → Q v H') → te σ H Q) (k : ∀ v H', R v H' → g v σ H' (tz D)) : tSeq (tAsg te g) tz D σ H := h _ k
/-- if c: .. else ..; c's answer is b -/
theorem sq_if (R : Bool → Hp → Prop) (h : ∀ Q : Bool → Hp → Prop, (∀ b H', R b H' → Q b H') → c σ H Q) (k1 : ∀ H', R true H' → t { D with nx := tz D } σ H') (k2 : ∀ H', R false H' → u { D with nx := tz D } σ H') : tSeq (tIfS c t u) tz D σ H := by
  refine h _ fun b H' r => ?_
  cases b with
  | true => exact iteT (k1 H' r)
  | false => exact iteF (k2 H' r)
theorem sq_ifP {p : Prop} [Decidable p] (h : ∀ Q : Bool → Hp → Prop, Q (decide p) H → c σ H Q) (k1 : p → t { D with nx := tz D } σ H) (k2 : ¬ p → u { D with nx := tz D } σ H) : tSeq (tIfS c t u) tz D σ H := by
  refine h _ ?_
  by_cases e : p
  · rw [decide_eq_true e]
    exact iteT (k1 e)
  · rw [decide_eq_false e]
    exact iteF (k2 e)
/-- if c: .. (no else) -/
theorem sq_whenP {p : Prop} [Decidable p] (h : ∀ Q : Bool → Hp → Prop, Q (decide p) H → c σ H Q) (k1 : p → t { D with nx := tz D } σ H) (k2 : ¬ p → tz D σ H) : tSeq (tIfS c t tNext) tz D σ H := sq_ifP h k1 k2
theorem if_ifP {p : Prop} [Decidable p] (h : ∀ Q : Bool → Hp → Prop, Q (decide p) H → c σ H Q) (k1 : p → t D σ H) (k2 : ¬ p → u D σ H) : tIfS c t u D σ H := by
  refine h _ ?_
  by_cases e : p
  · rw [decide_eq_true e]
    exact iteT (k1 e)
  · rw [decide_eq_false e]
    exact iteF (k2 e)
/-- any statement, then the rest -/
theorem sq_seq (h : t { D with nx := tz D } σ H) : tSeq t tz D σ H := h
theorem sq_nx (h : D.nx σ H) : tNext D σ H := h
end
section
variable {te : TE} {t tz : TS} {c : TT} {D : Ends} {σ : L2.St} {H : Hp}
/-- if c: .. (no else), where c is False; what it leaves: R -/
theorem sq_no (R : Hp → Prop) (h : ∀ Q : Bool → Hp → Prop, (∀ H', R H' → Q false H') → c σ H Q) (k : ∀ H', R H' → tz D σ H') : tSeq (tIfS c t tNext) tz D σ H := h _ fun H' r => iteF (k H' r)
/-- e alone -/
theorem sq_drop (R : Hp → Prop) (h : ∀ Q : VK, (∀ v H', R H' → Q v H') → te σ H Q) (k : ∀ H', R H' → tz D σ H') : tSeq (tDrop te) tz D σ H := h _ fun _ H' r => k H' r
/-- a statement, then the rest, with a word between them -/
theorem sq_cut (M : L2.St → Hp → Prop) (h : t { D with nx := M } σ H) (k : ∀ σ' H', M σ' H' → tz D σ' H') : Evl.tCut t tz D σ H := ⟨M, h, k⟩
end


end Rf
namespace Rf
open PySem PySem.Spec PyProof.Rows L2
/-! ### loops, one by one -/
section
variable {K : PySem.W.Frag} {tl : TE} {ta : TA} {g : TG} {tu tz : TS} {D : Ends} {σ : L2.St} {H : Hp} {j : Nat}
/-- for i in range(n) -/
theorem sq_forR (n : Int) (h : ∀ Q : List V → Hp → Prop, Q [.int n] H → ta σ H Q) (hn : -(2 ^ 62) ≤ n ∧ n < 2 ^ 62) (Pv : Nat → L2.St → Hp → Prop) (h0 : Pv 0 σ H)
    (hs : ∀ (i : Nat) σ' H', (i : Int) < n → Pv i σ' H' → tu { D with nx := Pv (i + 1), ct := Pv (i + 1), bk := tz D } (σ'.set j (some (.int (i : Int)))) H') (hd : ∀ σ' H', Pv n.toNat σ' H' → tz D σ' H') : tSeq (tFor (iRng1 ta) (gName j) tu) tz D σ H := by
  refine h _ ⟨n, rfl, hn.1, hn.2, for_range (lo := 0) (n := n.toNat) (D := { D with nx := tz D }) Pv h0 (fun i σ' H' hi p => ?_) hd⟩
  have e : (0 : Int) + (i : Int) = (i : Int) := Int.zero_add _
  have q := hs i σ' H' (by omega) p
  show tu _ (σ'.set j (some (.int (0 + (i : Int))))) H'
  rw [e]
  exact q
/-- the same, the bound's reckoning leaves R -/
theorem sq_forRx (R : Int → Hp → Prop) (h : ∀ Q : List V → Hp → Prop, (∀ n H1, R n H1 → Q [.int n] H1) → ta σ H Q) (hn : ∀ n H1, R n H1 → -(2 ^ 62) ≤ n ∧ n < 2 ^ 62) (Pv : Int → Nat → L2.St → Hp → Prop) (h0 : ∀ n H1, R n H1 → Pv n 0 σ H1)
    (hs : ∀ (n : Int) (i : Nat) σ' H', (i : Int) < n → Pv n i σ' H' → tu { D with nx := Pv n (i + 1), ct := Pv n (i + 1), bk := tz D } (σ'.set j (some (.int (i : Int)))) H') (hd : ∀ (n : Int) σ' H', Pv n n.toNat σ' H' → tz D σ' H') : tSeq (tFor (iRng1 ta) (gName j) tu) tz D σ H := by
  refine h _ fun n H1 r => ⟨n, rfl, (hn n H1 r).1, (hn n H1 r).2, for_range (lo := 0) (n := n.toNat) (D := { D with nx := tz D }) (Pv n) (h0 n H1 r) (fun i σ' H' hi p => ?_) (hd n)⟩
  have e : (0 : Int) + (i : Int) = (i : Int) := Int.zero_add _
  have q := hs n i σ' H' (by omega) p
  show tu _ (σ'.set j (some (.int (0 + (i : Int))))) H'
  rw [e]
  exact q
/-- for i in range(lo, hi) -/
theorem sq_forR2 (lo n : Int) (h : ∀ Q : List V → Hp → Prop, Q [.int lo, .int n] H → ta σ H Q) (hl : -(2 ^ 62) ≤ lo ∧ lo < 2 ^ 62) (hn : -(2 ^ 62) ≤ n ∧ n < 2 ^ 62) (Pv : Nat → L2.St → Hp → Prop) (h0 : Pv 0 σ H)
    (hs : ∀ (i : Nat) σ' H', lo + (i : Int) < n → Pv i σ' H' → tu { D with nx := Pv (i + 1), ct := Pv (i + 1), bk := tz D } (σ'.set j (some (.int (lo + (i : Int))))) H') (hd : ∀ σ' H', Pv (n - lo).toNat σ' H' → tz D σ' H') : tSeq (tFor (iRng2 ta) (gName j) tu) tz D σ H :=
  h _ ⟨lo, n, rfl, ⟨hl.1, hl.2, hn.1, hn.2⟩, for_range (lo := lo) (n := (n - lo).toNat) (D := { D with nx := tz D }) Pv h0 (fun i σ' H' hi p => hs i σ' H' (by omega) p) hd⟩
/-- for x in a list -/
theorem sq_forL {a : Addr} {xs : List V} (h : ∀ Q : VK, Q (.ref a) H → tl σ H Q) (hx : SqL K H a xs) (Pv : Nat → L2.St → Hp → Prop) (h0 : Pv 0 σ H) (hl : ∀ i σ' H', i ≤ xs.length → Pv i σ' H' → SqL K H' a xs)
    (hs : ∀ i x σ' H', xs[i]? = some x → Pv i σ' H' → g x σ' H' fun σ2 H2 => tu { D with nx := Pv (i + 1), ct := Pv (i + 1), bk := tz D } σ2 H2) (hd : ∀ σ' H', Pv xs.length σ' H' → tz D σ' H') : tSeq (tFor (iList K tl) g tu) tz D σ H :=
  h _ ⟨a, rfl, ⟨xs, hx⟩, for_list (D := { D with nx := tz D }) Pv h0 hl hs hd⟩
/-- for x in a tuple -/
theorem sq_forT {a : Addr} {xs : List V} (h : ∀ Q : VK, Q (.ref a) H → tl σ H Q) (hx : SqT K H a xs) (Pv : Nat → L2.St → Hp → Prop) (h0 : Pv 0 σ H) (hl : ∀ i σ' H', i ≤ xs.length → Pv i σ' H' → SqT K H' a xs)
    (hs : ∀ i x σ' H', xs[i]? = some x → Pv i σ' H' → g x σ' H' fun σ2 H2 => tu { D with nx := Pv (i + 1), ct := Pv (i + 1), bk := tz D } σ2 H2) (hd : ∀ σ' H', Pv xs.length σ' H' → tz D σ' H') : tSeq (tFor (iTup K tl) g tu) tz D σ H :=
  h _ ⟨a, rfl, ⟨xs, hx⟩, for_tup (D := { D with nx := tz D }) Pv h0 hl hs hd⟩
/-- for i, x in enumerate(a list) -/
theorem sq_forE {a : Addr} {xs : List V} (h : ∀ Q : List V → Hp → Prop, Q [.ref a] H → ta σ H Q) (hx : SqL K H a xs) (Pv : Nat → L2.St → Hp → Prop) (h0 : Pv 0 σ H) (hl : ∀ i σ' H', i ≤ xs.length → Pv i σ' H' → SqL K H' a xs)
    (hs : ∀ (i : Nat) (x : V) (T : Addr) σ' H', xs[i]? = some x → Pv i σ' H' → H' T = none → g (.ref T) σ' (upd H' T (.tup [.int (i : Int), x])) fun σ2 H2 => tu { D with nx := Pv (i + 1), ct := Pv (i + 1), bk := tz D } σ2 H2) (hd : ∀ σ' H', Pv xs.length σ' H' → tz D σ' H') : tSeq (tFor (iEnum K ta) g tu) tz D σ H := by
  refine h _ ⟨a, xs, rfl, hx, fun i m σ H => m = xs.length - i ∧ i ≤ xs.length ∧ Pv i σ H, ⟨xs.length, rfl, Nat.zero_le _, h0⟩, ?_⟩
  rintro i m σ H ⟨rfl, hi, p⟩
  have q := hl i σ H hi p
  by_cases hlt : i < xs.length
  · have hx : xs[i]? = some xs[i] := List.getElem?_eq_getElem hlt
    refine .inr ⟨⟨xs, _, q, hx⟩, Pv (i + 1), fun σ' H' p' => ⟨xs.length - (i + 1), by omega, rfl, hlt, p'⟩, fun v H' y => ?_⟩
    obtain ⟨T, x', rfl, hT, rfl, f1⟩ := y
    exact hs i x' T σ H (f1 xs q) p hT
  · have e : i = xs.length := by omega
    subst e
    exact .inl ⟨⟨xs, q, Nat.le_refl _⟩, hd σ H p⟩
/-- a for that is its block's last -/
theorem last_for {wi : TI} (h : tSeq (tFor wi g tu) tNext D σ H) : tFor wi g tu D σ H := h
end
/-- for x in a new list -/
theorem sq_forN {K : PySem.W.Frag} {tl : TE} {g : TG} {tu tz : TS} {D : Ends} {σ : L2.St} {H : Hp} {xs : List V} (h : ∀ Q : VK, (∀ p H', H p = none → Same H H' → H' p = some (.lst xs) → Q (.ref p) H') → tl σ H Q) (Pv : Addr → Nat → L2.St → Hp → Prop)
    (h0 : ∀ p H', H p = none → Same H H' → H' p = some (.lst xs) → Pv p 0 σ H') (hl : ∀ p i σ' H', i ≤ xs.length → Pv p i σ' H' → SqL K H' p xs)
    (hs : ∀ p i x σ' H', xs[i]? = some x → Pv p i σ' H' → g x σ' H' fun σ2 H2 => tu { D with nx := Pv p (i + 1), ct := Pv p (i + 1), bk := tz D } σ2 H2) (hd : ∀ p σ' H', Pv p xs.length σ' H' → tz D σ' H') : tSeq (tFor (iList K tl) g tu) tz D σ H :=
  h _ fun p H' np s hp => ⟨p, rfl, ⟨xs, sq_of hp⟩, for_list (D := { D with nx := tz D }) (Pv p) (h0 p H' np s hp) (hl p) (hs p) (hd p)⟩


end Rf
namespace Rf
open PySem PySem.Spec PyProof.Rows L2
/-! ### data without bools, texts and dicts: == is equality -/
mutual
def clean : PyData → Prop
  | .none => True
  | .int _ => True
  | .list xs => cleanAll xs
  | .tuple xs => cleanAll xs
  | .bool _ => False
  | .str _ => False
  | .dict _ => False
def cleanAll : List PyData → Prop
  | [] => True
  | x :: xs => clean x ∧ cleanAll xs
end
mutual
theorem eqv_iff : ∀ (d e : PyData), clean d → clean e → (PyData.eqv d e = true ↔ d = e)
  | .none, e, _, h => by cases e <;> simp_all [PyData.eqv, clean]
  | .int i, e, _, h => by cases e <;> simp_all [PyData.eqv, clean]
  | .list xs, e, hx, h => by
    cases e with
    | list ys =>
      unfold PyData.eqv
      rw [eqvAll_iff xs ys (by simpa [clean] using hx) (by simpa [clean] using h)]
      exact ⟨fun z => by rw [z], fun z => PyData.list.inj z⟩
    | _ => simp_all [PyData.eqv, clean]
  | .tuple xs, e, hx, h => by
    cases e with
    | tuple ys =>
      unfold PyData.eqv
      rw [eqvAll_iff xs ys (by simpa [clean] using hx) (by simpa [clean] using h)]
      exact ⟨fun z => by rw [z], fun z => PyData.tuple.inj z⟩
    | _ => simp_all [PyData.eqv, clean]
  | .bool _, _, h, _ => by simp [clean] at h
  | .str _, _, h, _ => by simp [clean] at h
  | .dict _, _, h, _ => by simp [clean] at h
theorem eqvAll_iff : ∀ (xs ys : List PyData), cleanAll xs → cleanAll ys → (PyData.eqvAll xs ys = true ↔ xs = ys)
  | [], [], _, _ => by simp [PyData.eqvAll]
  | [], _ :: _, _, _ => by simp [PyData.eqvAll]
  | _ :: _, [], _, _ => by simp [PyData.eqvAll]
  | x :: xs, y :: ys, hx, hy => by
    obtain ⟨h1, h2⟩ := (show clean x ∧ cleanAll xs by simpa [cleanAll] using hx)
    obtain ⟨h3, h4⟩ := (show clean y ∧ cleanAll ys by simpa [cleanAll] using hy)
    unfold PyData.eqvAll
    rw [Bool.and_eq_true, eqv_iff x y h1 h3, eqvAll_iff xs ys h2 h4]
    exact ⟨fun z => by rw [z.1, z.2], fun z => List.cons.inj z⟩
end
mutual
theorem canLay_clean : ∀ (d : PyData), clean d → d.canLay0 = true
  | .none, _ => by simp [PyData.canLay0]
  | .int i, _ => by simp [PyData.canLay0]
  | .list xs, h => by
    unfold PyData.canLay0
    exact canLayAll_clean xs (by simpa [clean] using h)
  | .tuple xs, h => by
    unfold PyData.canLay0
    exact canLayAll_clean xs (by simpa [clean] using h)
  | .bool _, h => by simp [clean] at h
  | .str _, h => by simp [clean] at h
  | .dict _, h => by simp [clean] at h
theorem canLayAll_clean : ∀ (xs : List PyData), cleanAll xs → PyData.canLayAll0 xs = true
  | [], _ => by simp [PyData.canLayAll0]
  | x :: xs, h => by
    obtain ⟨h1, h2⟩ := (show clean x ∧ cleanAll xs by simpa [cleanAll] using h)
    unfold PyData.canLayAll0
    rw [canLay_clean x h1, canLayAll_clean xs h2]
    rfl
end
theorem depthAll_le {n : Nat} : ∀ (xs : List PyData), (∀ x ∈ xs, x.depth ≤ n) → PyData.depthAll xs ≤ n
  | [], _ => by simp [PyData.depthAll]
  | x :: xs, h => by
    unfold PyData.depthAll
    exact Nat.max_le.mpr ⟨h x List.mem_cons_self, depthAll_le xs fun y hy => h y (List.mem_cons_of_mem _ hy)⟩
theorem cleanAll_of : ∀ {xs : List PyData}, (∀ x ∈ xs, clean x) → cleanAll xs
  | [], _ => by simp [cleanAll]
  | x :: xs, h => by
    simp only [cleanAll]
    exact ⟨h x List.mem_cons_self, cleanAll_of fun y hy => h y (List.mem_cons_of_mem _ hy)⟩
/-- d is clean data at most n deep -/
structure Cl (n : Nat) (d : PyData) : Prop where
  c : clean d
  d : d.depth ≤ n
theorem Cl.shaped {n : Nat} {d : PyData} (h : Cl n d) (hn : n ≤ 64) : SeqAt.shaped d = true := by
  unfold SeqAt.shaped
  rw [canLay_clean d h.c, decide_eq_true (Nat.le_trans h.d hn)]
  rfl
theorem cl_int {i : Int} : Cl 0 (.int i) := ⟨by simp [clean], by simp [PyData.depth]⟩
theorem cl_none : Cl 0 .none := ⟨by simp [clean], by simp [PyData.depth]⟩
theorem cl_list {n : Nat} {xs : List PyData} (h : ∀ x ∈ xs, Cl n x) : Cl (n + 1) (.list xs) :=
  ⟨by simpa [clean] using cleanAll_of fun x hx => (h x hx).c, by
    unfold PyData.depth
    exact Nat.succ_le_succ (depthAll_le xs fun x hx => (h x hx).d)⟩
theorem cl_tup {n : Nat} {xs : List PyData} (h : ∀ x ∈ xs, Cl n x) : Cl (n + 1) (.tuple xs) :=
  ⟨by simpa [clean] using cleanAll_of fun x hx => (h x hx).c, by
    unfold PyData.depth
    exact Nat.succ_le_succ (depthAll_le xs fun x hx => (h x hx).d)⟩
theorem cl_ints {l : List Int} : ∀ x ∈ l.map PyData.int, Cl 0 x := fun x hx => by
  obtain ⟨i, _, rfl⟩ := List.mem_map.mp hx
  exact cl_int
def dInts (l : List Int) : PyData := .list (l.map .int)
theorem cl_dInts {l : List Int} : Cl 1 (dInts l) := cl_list cl_ints
theorem dInts_inj {l m : List Int} : dInts l = dInts m ↔ l = m := by
  constructor
  · intro h
    have h2 := PyData.list.inj h
    exact (List.map_inj_right (fun a b z => PyData.int.inj z)).mp h2
  · intro h; rw [h]
theorem dpAll_ints {K : PySem.W.Frag} {H : Hp} : ∀ {l : List Int}, DpAll K H (l.map V.int) (l.map PyData.int)
  | [] => .nil
  | _ :: _ => .cons (.int _) dpAll_ints
theorem dp_ints {K : PySem.W.Frag} {H : Hp} {a : Addr} {l : List Int} (h : SqL K H a (l.map V.int)) : Dp K H (.ref a) (dInts l) := .lst h dpAll_ints
theorem eqv_ints {l m : List Int} : PyData.eqv (dInts l) (dInts m) = decide (l = m) := by
  by_cases h : l = m
  · rw [decide_eq_true h, h]
    exact (eqv_iff _ _ cl_dInts.c cl_dInts.c).mpr rfl
  · rw [decide_eq_false h]
    cases e : PyData.eqv (dInts l) (dInts m) with
    | false => rfl
    | true => exact absurd (dInts_inj.mp ((eqv_iff _ _ cl_dInts.c cl_dInts.c).mp e)) h
theorem sh_ints {l : List Int} : SeqAt.shaped (dInts l) = true := cl_dInts.shaped (by decide)
theorem eqv_self {n : Nat} {d : PyData} (h : Cl n d) : PyData.eqv d d = true := (eqv_iff d d h.c h.c).mpr rfl
theorem neqv_self {n : Nat} {d : PyData} (h : Cl n d) : (!PyData.eqv d d) = false := by
  rw [eqv_self h]
  rfl
/-- xs[:-1] of a list with one more item -/
theorem cut_last (xs : List V) (y : V) : cutV (xs ++ [y]) none (some (-1)) = xs := by
  have hl : (xs ++ [y]).length = xs.length + 1 := by simp
  unfold cutV
  rw [hl, HT.sIx_none]
  have e : HT.sIx (xs.length + 1) (xs.length + 1) (some (-1)) = xs.length := by
    simp [HT.sIx]
    omega
  rw [e, List.drop_zero, Nat.sub_zero]
  exact List.take_left' rfl


end Rf
namespace Rf
open PySem PySem.Spec PyProof.Rows L2
/-! ### the law's draws: any number of the range may come -/
structure RngAt (H : Hp) (h c : Addr) : Prop where
  ne : h ≠ c
  at_ : ∃ (x p : Int) (cells : List Int), H h = some (.lst [.int x, .ref c, .int p]) ∧ H c = some (.lst (cells.map V.int)) ∧ 0 ≤ x ∧ x < 2147483647 ∧ 0 ≤ p ∧ cells.length ≤ 63
def isHC (h c : Addr) (b : Addr) : Prop := b = h ∨ b = c
theorem RngAt.keep {H H' : Hp} {h c : Addr} (R : RngAt H h c) (e1 : H' h = H h) (e2 : H' c = H c) : RngAt H' h c := by
  obtain ⟨ne, x, p, cells, h1, h2, r⟩ := R
  exact ⟨ne, x, p, cells, e1.trans h1, e2.trans h2, r⟩
theorem RngAt.same {H H' : Hp} {h c : Addr} (R : RngAt H h c) (e : Same H H') : RngAt H' h c := by
  obtain ⟨ne, x, p, cells, h1, h2, r⟩ := R
  exact ⟨ne, x, p, cells, e _ _ h1, e _ _ h2, r⟩
theorem RngAt.off {S : Addr → Prop} {H H' : Hp} {h c : Addr} (R : RngAt H h c) (e : Off S H H') (n1 : ¬ S h) (n2 : ¬ S c) : RngAt H' h c := by
  obtain ⟨ne, x, p, cells, h1, h2, r⟩ := R
  exact ⟨ne, x, p, cells, e _ _ h1 n1, e _ _ h2 n2, r⟩
def spNext : Sp := fun vs H Q _ => ∃ (h c : Addr) (m : Int), vs = [.ref h, .int m] ∧ RngAt H h c ∧ 0 < m ∧ m < 1073741824 ∧
  ∀ (r : Int) (H' : Hp), 0 ≤ r → r < m → RngAt H' h c → Off (isHC h c) H H' → Q (.int r) H'
theorem Off.hc {H H1 H' : Hp} {h c b : Addr} {o : HO} (e : Off (isHC h c) H H') (hb : b = h ∨ b = c) : Off (isHC h c) H (upd H' b o) := fun a u q n => by
  have : a ≠ b := fun z => n (by rw [z]; exact hb)
  rw [upd_ne this]
  exact e a u q n
section
variable {P : Program} {w : World} {K : PySem.W.Frag} {mg : Str → Option Value} {base : Heap}
theorem sc_next : FnScope ["_law_h", "_law_many", "_law_at", "_law_cell"] ["_law_h", "_law_many"] (defScope s_next) := ⟨rfl, rfl, rfl, by decide +kernel, rfl, by decide +kernel, by decide +kernel⟩
theorem ok_next {f : Addr} {fd : FuncData} (D : DefAt K mg "_law_next" s_next ["_law_h", "_law_many"] f fd) (m_max : mg "max" = none) (m_len : mg "len" = none) : FnOk P w K mg base CX0 1 f fd ["_law_h", "_law_many"] spNext := by
  refine D.F.ok sc_next (fun vs H Q E h => ?_) (fun cdv A outer s H vs Q E hr h => ?_)
  · obtain ⟨h, c, m, rfl, _⟩ := h
    rfl
  · obtain ⟨h, c, m, rfl, R, m0, m1, k⟩ := h
    obtain ⟨ne, x, p, cells, e1, e2, x0, x1, p0, hl⟩ := R
    have hlen : (cells.map V.int).length = cells.length := List.length_map _
    refine ⟨_, pss_cons (ps_set (i := 2) sc_next.nd rfl (.inl rfl) (pe_op op_mod (pe_ix (r := rIxL K) ix_list (pv 0) pe_int (fun _ _ => rfl)) (pe_callB (call_max2 rfl) (by rfl) m_max (by decide +kernel) (pa_cons pe_int (pa_cons (pe_callB (r := rLen K) call_len (by rfl) m_len (by decide +kernel) (pa_cons (pe_ix (r := rIxL K) ix_list (pv 0) pe_int (fun _ _ => rfl)) pa_nil)) pa_nil)))))
        (pss_cons (ps_set (i := 3) sc_next.nd rfl (.inl rfl) (pe_ifExp (pt_cmpR (op_neD hr.units) (pe_ix (r := rIxL K) ix_list (pv 0) pe_int (fun _ _ => rfl)) (pe_lst pa_nil) (nomark _)) (pe_ix (r := rIxL K) ix_list (pe_ix (r := rIxL K) ix_list (pv 0) pe_int (fun _ _ => rfl)) (pv 2) (fun _ _ => rfl)) pe_int))
        (pss_cons (ps_if (pt_cmpR op_ge (pv 3) (pe_op op_pow pe_int pe_int) (nomark _)) (pss_cons (ps_asg (pe_op op_fdiv (pv 3) (pv 1)) (pg_sub (pe_ix (r := rIxL K) ix_list (pv 0) pe_int (fun _ _ => rfl)) (pv 2) set_list))
          (pss_one (ps_ret (pe_op op_mod (pv 3) (pv 1))))) pss_nil)
        (pss_cons (ps_asg (pe_op op_mod (pe_op op_add (pe_op op_add (pe_op op_mul (pe_ix (r := rIxL K) ix_list (pv 0) pe_int (fun _ _ => rfl)) pe_int) (pe_op op_mul (pv 3) pe_int)) pe_int) pe_int) (pg_sub (pv 0) pe_int set_list))
        (pss_cons (ps_asg (pe_op op_add (pe_ix (r := rIxL K) ix_list (pv 0) pe_int (fun _ _ => rfl)) pe_int) (pg_sub (pv 0) pe_int set_list))
        (pss_one (ps_ret (pe_op op_mod (pe_op op_fdiv (pe_ix (r := rIxL K) ix_list (pv 0) pe_int (fun _ _ => rfl)) pe_int) (pv 1)))))))), ?_⟩
    -- at
    have q : (0 : Int) < (if (((cells.map V.int).length : Nat) : Int) > 1 then (((cells.map V.int).length : Nat) : Int) else 1) := by split <;> omega
    refine sq_val (.int (p % (if (((cells.map V.int).length : Nat) : Int) > 1 then (((cells.map V.int).length : Nat) : Int) else 1))) (fun Q k => ?_) ?_
    · exact ⟨_, rfl, h, _, 2, _, rfl, rfl, sq_of e1, atI_nat (j := 2) rfl, _, rfl, h, _, 1, _, rfl, rfl, sq_of e1, atI_nat (j := 1) rfl, c, _, rfl, .inl (sq_of e2), _, _, rfl, _, _, rfl, rfl, q, k⟩
    -- cell
    refine sq_set (fun v H1 => Same H H1 ∧ ∃ z, v = .int z ∧ ((10 ^ 18 : Int) ≤ z → ∃ j : Nat, p % (if (((cells.map V.int).length : Nat) : Int) > 1 then (((cells.map V.int).length : Nat) : Int) else 1) = (j : Int) ∧ j < cells.length)) (fun Q k => ?_) (fun v H1 h1 => ?_)
    · refine ⟨_, rfl, h, _, 1, _, rfl, rfl, sq_of e1, atI_nat (j := 1) rfl, Nat.zero_le _, fun l nl => ⟨dInts cells, dInts [], dp_ints (sq_of (Same.new nl _ _ e2)), dp_ints (l := []) (sq_of upd_same), sh_ints, sh_ints, _, rfl, ?_⟩⟩
      rw [eqv_ints]
      refine ite2 (fun hc => ?_) (fun _ => k _ _ ⟨Same.new nl, _, rfl, fun z => absurd z (by decide)⟩)
      have hne : cells ≠ [] := fun z => by rw [z] at hc; simp at hc
      have h0 : 0 < cells.length := List.length_pos_iff.mpr hne
      obtain ⟨j, ej, lj⟩ : ∃ j : Nat, p % (if (((cells.map V.int).length : Nat) : Int) > 1 then (((cells.map V.int).length : Nat) : Int) else 1) = (j : Int) ∧ j < cells.length := by
        rw [hlen]
        have q : (if ((cells.length : Nat) : Int) > 1 then ((cells.length : Nat) : Int) else 1) = (cells.length : Int) := by split <;> omega
        rw [q]
        have b1 := Int.emod_nonneg p (b := (cells.length : Int)) (by omega)
        have b2 := Int.emod_lt_of_pos p (b := (cells.length : Int)) (by omega)
        exact ⟨(p % (cells.length : Int)).toNat, by omega, by omega⟩
      refine ⟨_, rfl, h, _, 1, _, rfl, rfl, sq_of (Same.new nl _ _ e1), atI_nat (j := 1) rfl, _, rfl, c, _, _, _, rfl, rfl, sq_of (Same.new nl _ _ e2), atI_g ej lj, ?_⟩
      exact k _ _ ⟨Same.new nl, _, rfl, fun _ => ⟨j, ej, lj⟩⟩
    · obtain ⟨s1, z, rfl, hat⟩ := h1
      have f1 := s1 _ _ e1
      have f2 := s1 _ _ e2
      refine sq_ifP (p := (10 ^ 18 : Int) ≤ z) (fun Q k => ⟨_, rfl, _, _, rfl, rfl, ⟨by decide, by decide, by decide⟩, _, _, rfl, rfl, _, rfl, k⟩) (fun hz => ?_) (fun hz => ?_)
      · obtain ⟨j, ej, lj⟩ := hat hz
        refine ⟨_, rfl, _, rfl, _, _, rfl, rfl, ⟨m0, m1⟩, _, rfl, h, _, 1, _, rfl, rfl, sq_of f1, atI_nat (j := 1) rfl, _, rfl, c, _, _, j, rfl, rfl, f2, ixN_nat ej (by rw [hlen]; exact lj), ?_⟩
        refine ⟨_, rfl, _, rfl, _, _, rfl, rfl, m0, ?_⟩
        refine k _ _ (Int.emod_nonneg _ (by omega)) (Int.emod_lt_of_pos _ m0) ⟨ne, x, p, cells.set j (z / m), ?_, ?_, x0, x1, p0, by rw [List.length_set]; exact hl⟩ ((Off.same s1).hc (H1 := H) (.inr rfl))
        · rw [upd_ne ne]
          exact f1
        · rw [upd_same, map_set]
      · refine sq_nx ?_
        have b1 := Int.emod_nonneg (x * 48271 + z * 69621 + 11) (b := 2147483647) (by decide)
        have b2 := Int.emod_lt_of_pos (x * 48271 + z * 69621 + 11) (b := 2147483647) (by decide)
        refine ⟨_, rfl, h, _, 0, _, rfl, rfl, sq_of f1, atI_nat (j := 0) rfl, x, 48271, rfl, rfl, .inr ⟨by decide, by decide⟩, _, rfl, z, 69621, rfl, rfl, .inr ⟨by decide, by decide⟩, _, _, rfl, rfl, _, _, rfl, rfl, _, _, rfl, rfl, (show (0 : Int) < 2147483647 by decide), ?_⟩
        refine ⟨_, rfl, h, _, 0, 0, rfl, rfl, f1, rfl, ?_⟩
        refine ⟨_, rfl, h, _, 2, _, rfl, rfl, sq_of upd_same, atI_nat (j := 2) rfl, _, _, rfl, rfl, _, rfl, h, _, 2, 2, rfl, rfl, upd_same, rfl, ?_⟩
        refine ⟨_, rfl, h, _, 0, _, rfl, rfl, sq_of upd_same, atI_nat (j := 0) rfl, _, _, rfl, rfl, ⟨by decide, by decide⟩, _, rfl, _, _, rfl, rfl, m0, ?_⟩
        refine k _ _ (Int.emod_nonneg _ (by omega)) (Int.emod_lt_of_pos _ m0) ⟨ne, (x * 48271 + z * 69621 + 11) % 2147483647, p + 1, cells, ?_, ?_, b1, b2, by omega, hl⟩ (((Off.same s1).hc (H1 := H) (.inl rfl)).hc (H1 := H) (.inl rfl))
        · rw [upd_same]
          rfl
        · rw [upd_ne ne.symm, upd_ne ne.symm]
          exact f2
end
/-! ### what a piece of the law leaves: the draws' lists may turn, all else stands -/
structure Fr (h c : Addr) (H H' : Hp) : Prop where
  off : Off (isHC h c) H H'
  rng : RngAt H' h c
theorem Fr.refl {h c : Addr} {H : Hp} (R : RngAt H h c) : Fr h c H H := ⟨Off.refl, R⟩
theorem Fr.trans {h c : Addr} {H H1 H2 : Hp} (a : Fr h c H H1) (b : Fr h c H1 H2) : Fr h c H H2 := ⟨a.off.trans b.off, b.rng⟩
theorem Fr.same {h c : Addr} {H H' H2 : Hp} (a : Fr h c H H') (s : Same H' H2) : Fr h c H H2 := ⟨a.off.trans (Off.same s), a.rng.same s⟩
theorem RngAt.fresh {H : Hp} {h c p : Addr} (R : RngAt H h c) (np : H p = none) : ¬ isHC h c p := by
  obtain ⟨ne, x, q, cells, h1, h2, _⟩ := R
  rintro (e | e)
  · rw [e, h1] at np; cases np
  · rw [e, h2] at np; cases np
theorem Fr.free {h c p : Addr} {H H' : Hp} (a : Fr h c H H') (np : H' p = none) : H p = none := by
  cases e : H p with
  | none => rfl
  | some o =>
    have := a.off p o e (a.rng.fresh np)
    rw [np] at this
    cases this
theorem RngAt.upd {H : Hp} {h c p : Addr} {o : HO} (R : RngAt H h c) (n : ¬ isHC h c p) : RngAt (L2.upd H p o) h c :=
  R.keep (upd_ne fun z => n (.inl z.symm)) (upd_ne fun z => n (.inr z.symm))
theorem Off.mut {S : Addr → Prop} {H H' : Hp} {p : Addr} {o : HO} (e : Off S H H') (h : H p = none) : Off S H (L2.upd H' p o) := fun a u ha n => by
  rw [upd_ne (ne_of_none ha h)]
  exact e a u ha n
/-- a new object is written -/
theorem Fr.mut {h c p : Addr} {H H' : Hp} {o : HO} (a : Fr h c H H') (np : H p = none) (n : ¬ isHC h c p) : Fr h c H (L2.upd H' p o) := ⟨a.off.mut np, a.rng.upd n⟩
theorem Fr.new {h c p : Addr} {H H' : Hp} {o : HO} (a : Fr h c H H') (np : H' p = none) : Fr h c H (L2.upd H' p o) := a.same (Same.new np)
theorem Fr.get {h c p : Addr} {H H' : Hp} {o : HO} (a : Fr h c H H') (e : H p = some o) (n : ¬ isHC h c p) : H' p = some o := a.off p o e n


end Rf
namespace Rf
open PySem PySem.Spec PyProof.Rows L2
/-! ### the law's own sharing -/
def idx : Option Nat → Int
  | none => -1
  | some k => (k : Int)
/-- numbers from 0 to a million -/
def Bnd (l : List Int) : Prop := ∀ x ∈ l, 0 ≤ x ∧ x ≤ 1000000
theorem Bnd.g {l : List Int} (h : Bnd l) {i : Nat} (hi : i < l.length) : 0 ≤ g l i ∧ g l i ≤ 1000000 := h _ (g_mem hi)
theorem cmul_of {i j : Int} (h : 0 ≤ i ∧ i ≤ 1000000) : CMul i j := .inl ⟨by omega, by omega⟩
theorem fu_skip {a p : List Int} {i : Nat} (h : ¬ g p i < g a i) : firstUp a p (i + 1) = firstUp a p i := by
  conv => lhs; unfold firstUp
  cases e : firstUp a p i with
  | none => simp only [if_neg h]
  | some f => simp only [if_neg (fun z => h (And.left z))]
theorem fu_first {a p : List Int} {i : Nat} (h : g p i < g a i) (e : firstUp a p i = none) : firstUp a p (i + 1) = some i := by
  unfold firstUp
  rw [e]
  simp only [if_pos h]
theorem fu_less {a p : List Int} {i f : Nat} (h : g p i < g a i) (e : firstUp a p i = some f) (h2 : g p i * g a f < g p f * g a i) : firstUp a p (i + 1) = some i := by
  unfold firstUp
  rw [e]
  simp only [if_pos (And.intro h h2)]
theorem fu_keep {a p : List Int} {i f : Nat} (e : firstUp a p i = some f) (h2 : ¬ g p i * g a f < g p f * g a i) : firstUp a p (i + 1) = some f := by
  unfold firstUp
  rw [e]
  simp only [if_neg (fun z => h2 (And.right z))]
theorem fu_lt {a p : List Int} : ∀ {n f : Nat}, firstUp a p n = some f → f < n
  | 0, f, h => by cases h
  | k + 1, f, h => by
    unfold firstUp at h
    cases e : firstUp a p k with
    | none =>
      rw [e] at h
      simp only at h
      split at h <;> cases h
      exact Nat.lt_succ_self _
    | some f' =>
      rw [e] at h
      have := fu_lt e
      simp only at h
      split at h <;> cases h <;> omega
/-- two lists of like length and their ints -/
structure Two (K : PySem.W.Frag) (H : Hp) (a p : Addr) (as ps : List Int) : Prop where
  ha : SqL K H a (as.map V.int)
  hp : SqL K H p (ps.map V.int)
  len : ps.length = as.length
  small : as.length ≤ 1000
  ba : Bnd as
  bp : Bnd ps
theorem Two.same {K : PySem.W.Frag} {H H' : Hp} {a p : Addr} {as ps : List Int} (T : Two K H a p as ps) (s : Same H H') : Two K H' a p as ps := ⟨s.seq T.ha, s.seq T.hp, T.len, T.small, T.ba, T.bp⟩
theorem bnd_valid {a p : List Int} (B : Bnd a) (W : Valid a p) : Bnd p := fun x hx => by
  obtain ⟨i, hi, rfl⟩ := mem_g hx
  have hi' : i < a.length := W.len ▸ hi
  have h1 := W.lo i hi'
  have h2 := W.hi i hi'
  have h3 := B.g hi'
  omega
theorem shareN_ok {a : List Int} (pos : AllPos a) (n : Nat) (h : (n : Int) ≤ a.sum) : Valid a (shareN a n) ∧ (shareN a n).sum = n := by
  have z := zeros_sum a
  obtain ⟨W, s⟩ := steps_ok pos (valid_zeros pos) n (by rw [z]; omega)
  refine ⟨W, ?_⟩
  show (steps a n (zeros a)).sum = n
  rw [s, z]
  omega
theorem shareN_next {a : List Int} (pos : AllPos a) (n : Nat) (h : (n : Int) < a.sum) : ∃ f, firstUp a (shareN a n) a.length = some f ∧ f < a.length ∧ shareN a (n + 1) = (shareN a n).set f (g (shareN a n) f + 1) := by
  obtain ⟨W, s⟩ := shareN_ok pos n (by omega)
  obtain ⟨f, e, F⟩ := exists_first W (by rw [s]; exact h) pos
  exact ⟨f, e, F.lt, nextS_of e⟩
theorem bnd_sum : ∀ {l : List Int}, Bnd l → l.sum ≤ 1000000 * l.length
  | [], _ => by simp
  | x :: r, h => by
    have h1 := h x List.mem_cons_self
    have h2 := bnd_sum (l := r) fun y hy => h y (List.mem_cons_of_mem _ hy)
    rw [List.sum_cons, List.length_cons]
    omega
/-- amounts as the sharing takes them -/
structure Amts (as : List Int) : Prop where
  pos : AllPos as
  bnd : Bnd as
  small : as.length ≤ 1000
theorem Amts.sum_le {as : List Int} (h : Amts as) : as.sum ≤ 1000000000 := by
  have := bnd_sum h.bnd
  have := h.small
  omega
theorem Amts.sum_nn {as : List Int} (h : Amts as) : 0 ≤ as.sum := h.pos.sum_nn
theorem min_if (c s : Int) : (if s < c then s else c) = min c s := by
  by_cases h : s < c
  · rw [if_pos h, Int.min_eq_right (by omega)]
  · rw [if_neg h, Int.min_eq_left (by omega)]
theorem rep_zeros (as : List Int) (n : Int) (h : n = (as.length : Int)) : (List.replicate n.toNat [V.int 0]).flatten = (zeros as).map V.int := by
  rw [h, Int.toNat_natCast, List.flatten_replicate_singleton]
  unfold zeros
  rw [List.map_replicate]


end Rf
namespace Rf
open PySem PySem.Spec PyProof.Rows L2
def spFirst (K : PySem.W.Frag) : Sp := fun vs H Q _ => ∃ (a p : Addr) (as ps : List Int), vs = [.ref a, .ref p] ∧ Two K H a p as ps ∧ Q (.int (idx (firstUp as ps as.length))) H
section
variable {P : Program} {w : World} {K : PySem.W.Frag} {mg : Str → Option Value} {base : Heap}
theorem sc_first : FnScope ["_law_amounts", "_law_paid", "_law_found", "_law_k"] ["_law_amounts", "_law_paid"] (defScope s_first) := ⟨rfl, rfl, rfl, by decide +kernel, rfl, by decide +kernel, by decide +kernel⟩
/- 0:_law_amounts 1:_law_paid 2:_law_found 3:_law_k -/
theorem ok_first {f : Addr} {fd : FuncData} (D : DefAt K mg "_law_first" s_first ["_law_amounts", "_law_paid"] f fd) (m_range : mg "range" = none) (m_len : mg "len" = none) : FnOk P w K mg base CX0 1 f fd ["_law_amounts", "_law_paid"] (spFirst K) := by
  refine D.F.ok sc_first (fun vs H Q E h => ?_) (fun cdv A outer s H vs Q E hr h => ?_)
  · obtain ⟨a, p, as, ps, rfl, _⟩ := h
    rfl
  · obtain ⟨a, p, as, ps, rfl, T, k⟩ := h
    have hlen : (as.map V.int).length = as.length := List.length_map _
    refine ⟨_, pss_cons (ps_set (i := 2) sc_first.nd rfl (.inl rfl) (pe_un un_neg pe_int))
        (pss_cons (ps_for PassesOwn.never rfl (pi_range1 (by rfl) m_range (pa_cons (pe_callB (r := rLen K) call_len (by rfl) m_len (by decide +kernel) (pa_cons (pv 0) pa_nil)) pa_nil)) (pg_name (i := 3) sc_first.nd rfl (.inl rfl)) (pss_one (ps_if (pt_cmpR op_lt (pe_ix (r := rIxL K) ix_list (pv 1) (pv 3) (fun _ _ => rfl)) (pe_ix (r := rIxL K) ix_list (pv 0) (pv 3) (fun _ _ => rfl)) (nomark _)) (pss_one (ps_if (pt_cmpR op_lt (pv 2) pe_int (nomark _)) (pss_one (ps_set (i := 2) sc_first.nd rfl (.inl rfl) (pv 3))) (pss_one (ps_if (pt_cmpR op_lt (pe_op op_mul (pe_ix (r := rIxL K) ix_list (pv 1) (pv 3) (fun _ _ => rfl)) (pe_ix (r := rIxL K) ix_list (pv 0) (pv 2) (fun _ _ => rfl))) (pe_op op_mul (pe_ix (r := rIxL K) ix_list (pv 1) (pv 2) (fun _ _ => rfl)) (pe_ix (r := rIxL K) ix_list (pv 0) (pv 3) (fun _ _ => rfl))) (nomark _)) (pss_one (ps_set (i := 2) sc_first.nd rfl (.inl rfl) (pv 3))) pss_nil)))) pss_nil)))
        (pss_one (ps_ret (pv 2)))), ?_⟩
    refine sq_val (.int (-1)) (fun Q k => ⟨_, rfl, k⟩) ?_
    refine sq_forR (as.length : Int) (fun Q k => ⟨_, rfl, a, _, rfl, .inl T.ha, by rw [hlen]; exact k⟩) (by have := T.small; omega)
      (fun i σ' H' => H' = H ∧ ∃ y, σ' = [some (.ref a), some (.ref p), some (.int (idx (firstUp as ps i))), y]) ⟨rfl, none, rfl⟩ (fun i σ' H' hi hP => ?_) (fun σ' H' hP => ?_)
    · obtain ⟨rfl, y, rfl⟩ := hP
      have hi1 : i < as.length := by omega
      have hi2 : i < ps.length := by rw [T.len]; exact hi1
      have b1 := T.ba.g hi1
      have b2 := T.bp.g hi2
      refine if_ifP (p := g ps i < g as i) (fun Q k => ⟨_, rfl, _, rfl, p, _, _, _, rfl, rfl, T.hp, atI_g rfl hi2, _, rfl, _, rfl, a, _, _, _, rfl, rfl, T.ha, atI_g rfl hi1, _, _, rfl, rfl, _, rfl, k⟩) (fun hlt => ?_) (fun hlt => ?_)
      · cases e : firstUp as ps i with
        | none =>
          refine if_ifP (p := idx (none : Option Nat) < 0) (fun Q k => ⟨_, rfl, _, _, rfl, rfl, _, rfl, k⟩) (fun _ => ?_) (fun z => absurd (show (-1 : Int) < 0 by decide) z)
          refine ⟨_, rfl, rfl, ?_⟩
          rw [fu_first hlt e]
          exact ⟨_, rfl⟩
        | some f0 =>
          have hf := fu_lt e
          have hf1 : f0 < as.length := by omega
          have hf2 : f0 < ps.length := by rw [T.len]; exact hf1
          have b3 := T.ba.g hf1
          have b4 := T.bp.g hf2
          refine if_ifP (p := idx (some f0) < 0) (fun Q k => ⟨_, rfl, _, _, rfl, rfl, _, rfl, k⟩) (fun z => absurd z (show ¬ ((f0 : Int) < 0) by omega)) (fun _ => ?_)
          refine if_ifP (p := g ps i * g as f0 < g ps f0 * g as i) (fun Q k => ⟨_, rfl, _, rfl, p, _, _, _, rfl, rfl, T.hp, atI_g rfl hi2, _, rfl, _, rfl, a, _, _, _, rfl, rfl, T.ha, atI_g rfl hf1, _, _, rfl, rfl, cmul_of b2, _, rfl, _, rfl, p, _, _, _, rfl, rfl, T.hp, atI_g rfl hf2, _, rfl, _, rfl, a, _, _, _, rfl, rfl, T.ha, atI_g rfl hi1, _, _, rfl, rfl, cmul_of b4, _, _, rfl, rfl, _, rfl, k⟩) (fun hl2 => ?_) (fun hl2 => ?_)
          · refine ⟨_, rfl, rfl, ?_⟩
            rw [fu_less hlt e hl2]
            exact ⟨_, rfl⟩
          · refine sq_nx ⟨rfl, ?_⟩
            rw [fu_keep e hl2]
            exact ⟨_, rfl⟩
      · refine sq_nx ⟨rfl, ?_⟩
        rw [fu_skip hlt]
        exact ⟨_, rfl⟩
    · obtain ⟨rfl, y, rfl⟩ := hP
      rw [Int.toNat_natCast] at *
      exact ⟨_, rfl, k⟩
end


end Rf
namespace Rf
open PySem PySem.Spec PyProof.Rows L2
def spLShared (K : PySem.W.Frag) : Sp := fun vs H Q _ => ∃ (a : Addr) (as : List Int) (c : Int), vs = [.ref a, .int c] ∧ SqL K H a (as.map V.int) ∧ Amts as ∧ 0 ≤ c ∧ ∀ p H', H p = none → Same H H' → H' p = some (.lst ((share as c).map V.int)) → Q (.ref p) H'
section
variable {P : Program} {w : World} {K : PySem.W.Frag} {mg : Str → Option Value} {base : Heap}
theorem sc_lshared : FnScope ["_law_amounts", "_law_coins", "_law_paid", "_law_turn", "_law_k"] ["_law_amounts", "_law_coins"] (defScope s_lshared) := ⟨rfl, rfl, rfl, by decide +kernel, rfl, by decide +kernel, by decide +kernel⟩
/- 0:_law_amounts 1:_law_coins 2:_law_paid 3:_law_turn 4:_law_k -/
theorem ok_lshared {f : Addr} {fd : FuncData} (D : DefAt K mg "_law_shared" s_lshared ["_law_amounts", "_law_coins"] f fd) (m_range : mg "range" = none) (m_len : mg "len" = none) (m_min : mg "min" = none) (m_sum : mg "sum" = none)
    {f1 : Addr} {fd1 : FuncData} (D_first : DefAt K mg "_law_first" s_first ["_law_amounts", "_law_paid"] f1 fd1) : FnOk P w K mg base CX0 2 f fd ["_law_amounts", "_law_coins"] (spLShared K) := by
  have G_first : FnOk P w K mg base CX0 1 f1 fd1 ["_law_amounts", "_law_paid"] (spFirst K) := ok_first D_first m_range m_len
  refine D.F.ok sc_lshared (fun vs H Q E h => ?_) (fun cdv A outer s H vs Q E hr h => ?_)
  · obtain ⟨a, as, c, rfl, _⟩ := h
    rfl
  · obtain ⟨a, as, c, rfl, ha, M, hc, k⟩ := h
    have hlen : (as.map V.int).length = as.length := List.length_map _
    have hs := M.sum_le
    have hs0 := M.sum_nn
    have hsm := M.small
    refine ⟨_, pss_cons (ps_set (i := 2) sc_lshared.nd rfl (.inl rfl) (pe_op op_rep (pe_lst (pa_cons pe_int pa_nil)) (pe_callB (r := rLen K) call_len (by rfl) m_len (by decide +kernel) (pa_cons (pv 0) pa_nil))))
        (pss_cons (ps_for PassesOwn.never rfl (pi_range1 (by rfl) m_range (pa_cons (pe_callB (call_min2 rfl) (by rfl) m_min (by decide +kernel) (pa_cons (pv 1) (pa_cons (pe_callB (r := rSum K) (cr_sum rfl) (by rfl) m_sum (by decide +kernel) (pa_cons (pv 0) pa_nil)) pa_nil))) pa_nil)) (pg_name (i := 3) sc_lshared.nd rfl (.inl rfl)) (pss_cons (ps_set (i := 4) sc_lshared.nd rfl (.inl rfl) (pe_call G_first (hr.mono (by decide)) (by rfl) D_first.g D_first.F.kp D_first.b .nil pass0 (pa_cons (pv 0) (pa_cons (pv 2) pa_nil))))
          (pss_one (ps_asg (pe_op op_add (pe_ix (r := rIxL K) ix_list (pv 2) (pv 4) (fun _ _ => rfl)) pe_int) (pg_sub (pv 2) (pv 4) set_list)))))
        (pss_one (ps_ret (pv 2)))), ?_⟩
    refine sq_new (.lst ((zeros as).map V.int)) (fun Q k => ?_) (fun p H1 np s1 hp => ?_)
    · refine ⟨by decide, fun l nl => ⟨_, rfl, a, _, rfl, .inl ((Same.new nl).seq ha), l, _, _, rfl, rfl, upd_same, by omega, by omega, sz_of (by rw [hlen]; simp; omega), fun p np => ?_⟩⟩
      refine k p _ ((Same.new nl).free np) ((Same.new nl).trans (Same.new np)) ?_
      rw [upd_same, rep_zeros as _ (by rw [hlen])]
    · refine sq_forR (min c as.sum) (fun Q k => ⟨_, rfl, _, rfl, a, as, rfl, s1.seq ha, _, _, rfl, by rw [min_if]; exact k⟩) (by omega)
        (fun i σ' H' => Same H H' ∧ H' p = some (.lst ((shareN as i).map V.int)) ∧ ∃ y z, σ' = [some (.ref a), some (.int c), some (.ref p), y, z]) ⟨s1, hp, none, none, rfl⟩ (fun i σ' H' hi hP => ?_) (fun σ' H' hP => ?_)
      · obtain ⟨s2, hp2, y, z, rfl⟩ := hP
        obtain ⟨W, sm⟩ := shareN_ok M.pos i (by omega)
        obtain ⟨f0, e, hf, en⟩ := shareN_next M.pos i (by omega)
        have hf2 : f0 < (shareN as i).length := by rw [W.len]; exact hf
        refine sq_val (.int (f0 : Int)) (fun Q k => ⟨_, rfl, _, rfl, a, p, as, shareN as i, rfl, ⟨s2.seq ha, sq_of hp2, W.len, M.small, M.bnd, bnd_valid M.bnd W⟩, by rw [e]; exact k⟩) ?_
        refine ⟨_, rfl, _, rfl, p, _, _, _, rfl, rfl, sq_of hp2, atI_g rfl hf2, _, _, rfl, rfl, _, rfl, _, rfl, p, _, _, f0, rfl, rfl, hp2, ixN_nat rfl (by rw [List.length_map]; exact hf2), ?_⟩
        refine ⟨Same.mut s2 np, ?_, _, _, rfl⟩
        rw [upd_same, map_set, en]
      · obtain ⟨s2, hp2, y, z, rfl⟩ := hP
        exact ⟨_, rfl, k p H' np s2 hp2⟩
end


end Rf
namespace Rf
open PySem PySem.Spec PyProof.Rows L2
/-- the list found is due: both of whole numbers -/
def spAre (K : PySem.W.Frag) : Sp := fun vs H Q _ => ∃ (a b : Addr) (xs ys : List Int), vs = [.ref a, .ref b] ∧ H a = some (.lst (xs.map V.int)) ∧ SqL K H b (ys.map V.int) ∧ ys.length ≤ 1000 ∧ Q (.bl (decide (xs = ys))) H
section
variable {P : Program} {w : World} {K : PySem.W.Frag} {mg : Str → Option Value} {base : Heap}
theorem sc_are : FnScope ["_law_found", "_law_due", "_law_k"] ["_law_found", "_law_due"] (defScope s_are) := ⟨rfl, rfl, rfl, by decide +kernel, rfl, by decide +kernel, by decide +kernel⟩
/- 0:_law_found 1:_law_due 2:_law_k -/
theorem ok_are {f : Addr} {fd : FuncData} (D : DefAt K mg "_law_are" s_are ["_law_found", "_law_due"] f fd) (m_range : mg "range" = none) (m_len : mg "len" = none) (m_isinstance : mg "isinstance" = none) (m_list : mg "list" = none) (m_bool : mg "bool" = none) (m_int : mg "int" = none) : FnOk P w K mg base CX0 1 f fd ["_law_found", "_law_due"] (spAre K) := by
  refine D.F.ok sc_are (fun vs H Q E h => ?_) (fun cdv A outer s H vs Q E hr h => ?_)
  · obtain ⟨a, b, xs, ys, rfl, _⟩ := h
    rfl
  · obtain ⟨a, b, xs, ys, rfl, ha, hb, hsm, k⟩ := h
    have lx : (xs.map V.int).length = xs.length := List.length_map _
    have ly : (ys.map V.int).length = ys.length := List.length_map _
    refine ⟨_, pss_cons (ps_if (PW.pt (pw_or (pt_not (pt_val (pe_callB (r := rIsi K) call_isi (by rfl) m_isinstance (by decide +kernel) (pa_cons (pv 0) (pa_cons (pe_bltn (v := .ty "list") (by rfl) m_list (by decide +kernel) rfl) pa_nil))))) (pw_or1 (pt_cmpR op_ne (pe_callB (r := rLen K) call_len (by rfl) m_len (by decide +kernel) (pa_cons (pv 0) pa_nil)) (pe_callB (r := rLen K) call_len (by rfl) m_len (by decide +kernel) (pa_cons (pv 1) pa_nil)) (nomark _))))) (pss_one (ps_ret pe_bl)) pss_nil)
        (pss_cons (ps_for PassesOwn.never rfl (pi_range1 (by rfl) m_range (pa_cons (pe_callB (r := rLen K) call_len (by rfl) m_len (by decide +kernel) (pa_cons (pv 1) pa_nil)) pa_nil)) (pg_name (i := 2) sc_are.nd rfl (.inl rfl)) (pss_one (ps_if (PW.pt (pw_or (pt_val (pe_callB (r := rIsi K) call_isi (by rfl) m_isinstance (by decide +kernel) (pa_cons (pe_ix (r := rIxL K) ix_list (pv 0) (pv 2) (fun _ _ => rfl)) (pa_cons (pe_bltn (v := .ty "bool") (by rfl) m_bool (by decide +kernel) rfl) pa_nil)))) (pw_or (pt_not (pt_val (pe_callB (r := rIsi K) call_isi (by rfl) m_isinstance (by decide +kernel) (pa_cons (pe_ix (r := rIxL K) ix_list (pv 0) (pv 2) (fun _ _ => rfl)) (pa_cons (pe_bltn (v := .ty "int") (by rfl) m_int (by decide +kernel) rfl) pa_nil))))) (pw_or1 (pt_cmpR op_ne (pe_ix (r := rIxL K) ix_list (pv 0) (pv 2) (fun _ _ => rfl)) (pe_ix (r := rIxL K) ix_list (pv 1) (pv 2) (fun _ _ => rfl)) (nomark _)))))) (pss_one (ps_ret pe_bl)) pss_nil)))
        (pss_one (ps_ret pe_bl))), ?_⟩
    refine sq_whenP (p := xs.length ≠ ys.length) (fun Q k => ?_) (fun hne => ?_) (fun hle => ?_)
    · refine ⟨_, rfl, _, _, .type "list", .type "list", true, rfl, .ty _, .base (.lst ha), kit_ty (by decide +kernel), _, rfl, iteF ?_⟩
      refine ⟨_, rfl, a, _, rfl, .inl (sq_of ha), _, rfl, b, _, rfl, .inl hb, rfl, _, rfl, ?_⟩
      have e : (!decide (V.int ((xs.map V.int).length : Int) = V.int ((ys.map V.int).length : Int))) = decide (xs.length ≠ ys.length) := by
        rw [dec_int, lx, ly]
        by_cases h : xs.length = ys.length
        · rw [h]; simp
        · rw [decide_eq_true (show xs.length ≠ ys.length from h)]
          have : ¬ ((xs.length : Int) = (ys.length : Int)) := by omega
          simp [this]
      rw [e]
      exact k
    · have e : decide (xs = ys) = false := decide_eq_false fun z => hne (by rw [z])
      rw [e] at k
      exact k
    · have hl : xs.length = ys.length := Classical.byContradiction hle
      refine sq_forR (ys.length : Int) (fun Q k => ⟨_, rfl, b, _, rfl, .inl hb, by rw [ly]; exact k⟩) (by omega)
        (fun i σ' H' => H' = H ∧ (∀ j, j < i → g xs j = g ys j) ∧ ∃ y, σ' = [some (.ref a), some (.ref b), y]) ⟨rfl, fun j hj => absurd hj (Nat.not_lt_zero _), none, rfl⟩ (fun i σ' H' hi hP => ?_) (fun σ' H' hP => ?_)
      · obtain ⟨rfl, he, y, rfl⟩ := hP
        have hi2 : i < ys.length := by omega
        have hi1 : i < xs.length := by omega
        refine if_ifP (p := g xs i ≠ g ys i) (fun Q k => ?_) (fun hne => ?_) (fun heq => ?_)
        · refine ⟨_, rfl, _, rfl, a, _, _, _, rfl, rfl, sq_of ha, atI_g rfl hi1, _, _, .type "int", .type "bool", false, rfl, .ty _, .base (.int _), kit_ty (by decide +kernel), _, rfl, iteF ?_⟩
          refine ⟨_, rfl, _, rfl, a, _, _, _, rfl, rfl, sq_of ha, atI_g rfl hi1, _, _, .type "int", .type "int", true, rfl, .ty _, .base (.int _), kit_ty (by decide +kernel), _, rfl, iteF ?_⟩
          refine ⟨_, rfl, _, rfl, a, _, _, _, rfl, rfl, sq_of ha, atI_g rfl hi1, _, rfl, _, rfl, b, _, _, _, rfl, rfl, hb, atI_g rfl hi2, rfl, _, rfl, ?_⟩
          have e : (!decide (V.int (g xs i) = V.int (g ys i))) = decide (g xs i ≠ g ys i) := by
            rw [dec_int]
            by_cases h : g xs i = g ys i
            · rw [h]; simp
            · simp [h]
          rw [e]
          exact k
        · have e : decide (xs = ys) = false := decide_eq_false fun z => hne (by rw [z])
          rw [e] at k
          exact k
        · refine sq_nx ⟨rfl, fun j hj => ?_, _, rfl⟩
          by_cases h : j < i
          · exact he j h
          · have : j = i := by omega
            subst this
            exact Classical.byContradiction heq
      · obtain ⟨rfl, he, y, rfl⟩ := hP
        have e : decide (xs = ys) = true := decide_eq_true (ext_g hl fun i hi => he i (by omega))
        rw [e] at k
        exact k
end


end Rf
namespace Rf
open PySem PySem.Spec PyProof.Rows L2
/-- one coin more went to the next one alone -/
def spIsNext (K : PySem.W.Frag) : Sp := fun vs H Q _ => ∃ (a p m : Addr) (as ps : List Int) (f : Nat), vs = [.ref a, .ref p, .ref m] ∧ Two K H a p as ps ∧ firstUp as ps as.length = some f ∧ SqL K H m ((ps.set f (g ps f + 1)).map V.int) ∧ ∀ H', Same H H' → Q (.bl true) H'
section
variable {P : Program} {w : World} {K : PySem.W.Frag} {mg : Str → Option Value} {base : Heap}
theorem sc_isnext : FnScope ["_law_amounts", "_law_found", "_law_more", "_law_grown", "_law_k"] ["_law_amounts", "_law_found", "_law_more"] (defScope s_isnext) := ⟨rfl, rfl, rfl, by decide +kernel, rfl, by decide +kernel, by decide +kernel⟩
/- 0:_law_amounts 1:_law_found 2:_law_more 3:_law_grown 4:_law_k -/
theorem ok_isnext {f : Addr} {fd : FuncData} (D : DefAt K mg "_law_is_next" s_isnext ["_law_amounts", "_law_found", "_law_more"] f fd) (m_range : mg "range" = none) (m_len : mg "len" = none)
    {f1 : Addr} {fd1 : FuncData} (D_first : DefAt K mg "_law_first" s_first ["_law_amounts", "_law_paid"] f1 fd1) : FnOk P w K mg base CX0 2 f fd ["_law_amounts", "_law_found", "_law_more"] (spIsNext K) := by
  have G_first : FnOk P w K mg base CX0 1 f1 fd1 ["_law_amounts", "_law_paid"] (spFirst K) := ok_first D_first m_range m_len
  refine D.F.ok sc_isnext (fun vs H Q E h => ?_) (fun cdv A outer s H vs Q E hr h => ?_)
  · obtain ⟨a, p, m, as, ps, f, rfl, _⟩ := h
    rfl
  · obtain ⟨a, p, m, as, ps, f0, rfl, T, hf, hm, k⟩ := h
    have la : (as.map V.int).length = as.length := List.length_map _
    have hf1 : f0 < as.length := fu_lt hf
    have hf2 : f0 < ps.length := by rw [T.len]; exact hf1
    have hsm := T.small
    refine ⟨_, pss_cons (ps_setLc (i := 3) (own := [("_law_k", 4)]) (g := gName 4) (by rfl) sc_isnext.nd rfl rfl (sw_true rfl rfl rfl (by decide +kernel)) (pi_range1 (by rfl) m_range (pa_cons (pe_callB (r := rLen K) call_len (by rfl) m_len (by decide +kernel) (pa_cons (pv 0) pa_nil)) pa_nil)) (blkOk_by (own := [("_law_k", 4)]) (N := ["_law_amounts", "_law_found", "_law_more", "_law_grown", "_law_k"]) (sc := defScope s_isnext) (by decide +kernel)) (fun _ _ _ _ _ => (pg_name (i := 4) sc_isnext.nd rfl (.inl rfl))) (fun _ _ _ _ _ => (pts_one (pt_cmpR op_ne (pe_ix (r := rIxL K) ix_list (pv 2) (pv 4) (fun _ _ => rfl)) (pe_ix (r := rIxL K) ix_list (pv 1) (pv 4) (fun _ _ => rfl)) (nomark _)))) (fun _ _ _ _ _ => (pv 4)))
        (pss_one (ps_ret (pe_and (pe_cmpR op_eq (pe_callB (r := rLen K) call_len (by rfl) m_len (by decide +kernel) (pa_cons (pv 3) pa_nil)) pe_int (nomark _)) (pe_and (pe_cmpR op_eq (pe_ix (r := rIxL K) ix_list (pv 2) (pe_ix (r := rIxL K) ix_list (pv 3) pe_int (fun _ _ => rfl)) (fun _ _ => rfl)) (pe_op op_add (pe_ix (r := rIxL K) ix_list (pv 1) (pe_ix (r := rIxL K) ix_list (pv 3) pe_int (fun _ _ => rfl)) (fun _ _ => rfl)) pe_int) (nomark _)) (pe_one (pe_cmpR op_eq (pe_ix (r := rIxL K) ix_list (pv 3) pe_int (fun _ _ => rfl)) (pe_call G_first (hr.mono (by decide)) (by rfl) D_first.g D_first.F.kp D_first.b .nil pass0 (pa_cons (pv 0) (pa_cons (pv 1) pa_nil))) (nomark _))))))), ?_⟩
    refine sq_new (.lst [V.int (f0 : Int)]) (fun Q k => ?_) (fun d H1 nd s1 hd => ?_)
    · refine ⟨_, rfl, a, _, rfl, .inl T.ha, (as.length : Int), by rw [la], by omega, by omega, fun d nd => ?_⟩
      refine lc_range (lo := 0) (n := (as.length : Int).toNat) (fun i H' => Same H H' ∧ H' d = some (.lst (if f0 < i then [V.int (f0 : Int)] else []))) ⟨Same.new nd, upd_same⟩ (fun i H' hi hP => ?_) (fun H' hP => ?_)
      · obtain ⟨s2, hd2⟩ := hP
        have hi1 : i < as.length := by omega
        have hi2 : i < ps.length := by rw [T.len]; exact hi1
        have e0 : (0 : Int) + (i : Int) = (i : Int) := Int.zero_add _
        rw [e0]
        have hset : i < (ps.set f0 (g ps f0 + 1)).length := by rw [List.length_set]; exact hi2
        refine ⟨rfl, _, rfl, _, rfl, m, _, _, _, rfl, rfl, s2.seq hm, atI_g rfl hset, _, rfl, _, rfl, p, _, _, _, rfl, rfl, s2.seq T.hp, atI_g rfl hi2, rfl, _, rfl, ?_⟩
        by_cases e : f0 = i
        · subst e
          rw [g_set_same hf2]
          have q : (!decide (V.int (g ps f0 + 1) = V.int (g ps f0))) = true := by
            rw [dec_int]
            have : ¬ (g ps f0 + 1 = g ps f0) := by omega
            simp [this]
          rw [q]
          refine iteT ⟨_, rfl, _, hd2, ?_, Same.mut s2 nd, ?_⟩
          · rw [if_neg (Nat.lt_irrefl _)]
            exact sz_lt (by decide)
          · rw [upd_same, if_neg (Nat.lt_irrefl _), if_pos (Nat.lt_succ_self _)]
            rfl
        · rw [g_set_ne e]
          have q : (!decide (V.int (g ps i) = V.int (g ps i))) = false := by simp
          rw [q]
          refine iteF ⟨s2, ?_⟩
          rw [hd2]
          by_cases h : f0 < i
          · rw [if_pos h, if_pos (by omega)]
          · rw [if_neg h, if_neg (by omega)]
      · obtain ⟨s2, hd2⟩ := hP
        refine k d H' nd s2 ?_
        rw [hd2, if_pos (by omega)]
    · have lg : SqL K H1 d [V.int (f0 : Int)] := sq_of hd
      have hset : f0 < (ps.set f0 (g ps f0 + 1)).length := by rw [List.length_set]; exact hf2
      have T1 := T.same s1
      have at0 : atI [V.int (f0 : Int)] 0 = some (V.int (f0 : Int)) := rfl
      refine ⟨_, rfl, d, _, rfl, .inl lg, rfl, true, rfl, iteT ?_⟩
      refine ⟨_, rfl, _, rfl, d, _, _, _, rfl, rfl, lg, at0, m, _, _, _, rfl, rfl, s1.seq hm, atI_g rfl hset, _, rfl, _, rfl, d, _, _, _, rfl, rfl, lg, at0, p, _, _, _, rfl, rfl, T1.hp, atI_g rfl hf2, _, _, rfl, rfl, rfl, ?_⟩
      rw [g_set_same hf2]
      refine ⟨true, by simp, iteT ?_⟩
      refine ⟨_, rfl, d, _, _, _, rfl, rfl, lg, at0, _, rfl, _, rfl, a, p, as, ps, rfl, T1, ?_⟩
      rw [hf]
      refine ⟨rfl, ?_⟩
      have q : decide (V.int (f0 : Int) = V.int (idx (some f0))) = true := decide_eq_true rfl
      rw [q]
      exact k H1 s1
end


end Rf
namespace Rf
open PySem PySem.Spec PyProof.Rows L2
/-! ### the program's sharing -/
def spFirstCoins (K : PySem.W.Frag) : Sp := fun vs H Q _ => ∃ (a : Addr) (as : List Int) (c : Int), vs = [.ref a, .int c] ∧ SqL K H a (as.map V.int) ∧ Amts as ∧ 0 ≤ c ∧ c < as.sum ∧
  ∀ p H', H p = none → Same H H' → H' p = some (.lst ((startAt as (partsOf as c)).map V.int)) → Q (.ref p) H'
def spLeast (K : PySem.W.Frag) : Sp := fun vs H Q _ => ∃ (a p : Addr) (as ps : List Int), vs = [.ref a, .ref p] ∧ Two K H a p as ps ∧ ∀ H', Same H H' → Q (match firstUp as ps as.length with | none => V.non | some k => V.int (k : Int)) H'
def spShared (K : PySem.W.Frag) : Sp := fun vs H Q _ => ∃ (a : Addr) (as : List Int) (c : Int), vs = [.ref a, .int c] ∧ SqL K H a (as.map V.int) ∧ Amts as ∧
  ∀ p H', H p = none → Same H H' → H' p = some (.lst ((share as (max 0 c)).map V.int)) → Q (.ref p) H'
theorem max_if (c : Int) : (if c > 0 then c else 0) = max 0 c := by
  by_cases h : c > 0
  · rw [if_pos h, Int.max_eq_right (by omega)]
  · rw [if_neg h, Int.max_eq_left (by omega)]
def optV : Option Nat → V
  | none => .non
  | some k => .int (k : Int)
theorem startAt_len (as : List Int) (p : Int) : (startAt as p).length = as.length := by
  unfold startAt
  rw [List.length_map]
section
variable {P : Program} {w : World} {K : PySem.W.Frag} {mg : Str → Option Value} {base : Heap}
theorem sc_first_coins : FnScope ["amounts", "coins", "parts", "whole", "amount"] ["amounts", "coins"] (defScope s_first_coins) := ⟨rfl, rfl, rfl, by decide +kernel, rfl, by decide +kernel, by decide +kernel⟩
/- 0:amounts 1:coins 2:parts 3:whole 4:amount -/
theorem ok_first_coins {f : Addr} {fd : FuncData} (D : DefAt K mg "_first_coins" s_first_coins ["amounts", "coins"] f fd) (m_max : mg "max" = none) (m_len : mg "len" = none) (m_sum : mg "sum" = none) : FnOk P w K mg base CX0 1 f fd ["amounts", "coins"] (spFirstCoins K) := by
  refine D.F.ok sc_first_coins (fun vs H Q E h => ?_) (fun cdv A outer s H vs Q E hr h => ?_)
  · obtain ⟨a, as, c, rfl, _⟩ := h
    rfl
  · obtain ⟨a, as, c, rfl, ha, M, hc, hlt, k⟩ := h
    have la : (as.map V.int).length = as.length := List.length_map _
    have hs := M.sum_le
    have hsm := M.small
    have hp0 : 0 ≤ partsOf as c := by unfold partsOf; omega
    refine ⟨_, pss_cons (ps_set (i := 2) sc_first_coins.nd rfl (.inr rfl) (pe_callB (call_max2 rfl) (by rfl) m_max (by decide +kernel) (pa_cons pe_int (pa_cons (pe_op op_add (pe_op op_sub (pv 1) (pe_callB (r := rLen K) call_len (by rfl) m_len (by decide +kernel) (pa_cons (pv 0) pa_nil))) pe_int) pa_nil))))
        (pss_cons (ps_set (i := 3) sc_first_coins.nd rfl (.inr rfl) (pe_callB (r := rSum K) (cr_sum rfl) (by rfl) m_sum (by decide +kernel) (pa_cons (pv 0) pa_nil)))
        (pss_one (ps_ret (pe_lc (own := [("amount", 4)]) (g := gName 4) (tt := tYes) (by rfl) sc_first_coins.nd (pi_list (pv 0)) (blkOk_by (own := [("amount", 4)]) (N := ["amounts", "coins", "parts", "whole", "amount"]) (sc := defScope s_first_coins) (by decide +kernel)) (fun _ _ _ _ _ => (pg_name (i := 4) sc_first_coins.nd rfl (.inl rfl))) (fun _ _ _ _ _ => pts_nil) (fun _ _ _ _ _ => (pe_un un_neg (pe_op op_fdiv (pe_op op_mul (pe_un un_neg (pv 4)) (pv 2)) (pv 3)))))))), ?_⟩
    refine sq_val (.int (partsOf as c)) (fun Q k => ⟨_, rfl, _, rfl, a, _, rfl, .inl ha, _, _, rfl, rfl, _, _, rfl, rfl, _, _, rfl, ?_⟩) ?_
    · rw [max_if, la]
      exact k
    refine sq_val (.int as.sum) (fun Q k => ⟨_, rfl, a, as, rfl, ha, k⟩) ?_
    refine ⟨_, rfl, a, rfl, ⟨_, ha⟩, fun d nd => ?_⟩
    refine lc_list (xs := as.map V.int) (fun i H' => Same H H' ∧ H' d = some (.lst (((startAt as (partsOf as c)).take i).map V.int))) ⟨Same.new nd, by rw [upd_same]; rfl⟩ (fun i H' _ hP => hP.1.seq ha) (fun i x H' hx hP => ?_) (fun H' hP => ?_)
    · obtain ⟨s2, hd2⟩ := hP
      have hi : i < as.length := by
        have := (List.getElem?_eq_some_iff.mp hx).1
        rw [la] at this
        exact this
      have ex : x = .int (g as i) := by
        rw [List.getElem?_map, g_get hi] at hx
        exact (Option.some.inj hx).symm
      subst ex
      have b := M.bnd.g hi
      refine ⟨rfl, _, rfl, _, rfl, _, rfl, _, _, rfl, rfl, .inl ⟨by omega, by omega⟩, _, rfl, _, _, rfl, rfl, ⟨by omega, by omega⟩, _, rfl, _, hd2, ?_, Same.mut s2 nd, ?_⟩
      · rw [List.length_map, List.length_take]
        exact sz_lt (by omega)
      · rw [upd_same]
        have hg : (startAt as (partsOf as c))[i]? = some (-((-(g as i) * partsOf as c) / as.sum)) := by
          unfold startAt
          rw [List.getElem?_map, g_get hi]
          rfl
        rw [List.take_add_one, hg, List.map_append]
        rfl
    · obtain ⟨s2, hd2⟩ := hP
      refine k d H' nd s2 ?_
      rw [hd2, List.take_of_length_le (by rw [startAt_len, la]; exact Nat.le_refl _)]
theorem sc_least_paid : FnScope ["amounts", "paid", "least", "number", "amount"] ["amounts", "paid"] (defScope s_least_paid) := ⟨rfl, rfl, rfl, by decide +kernel, rfl, by decide +kernel, by decide +kernel⟩
/- 0:amounts 1:paid 2:least 3:number 4:amount -/
theorem ok_least_paid {f : Addr} {fd : FuncData} (D : DefAt K mg "_least_paid" s_least_paid ["amounts", "paid"] f fd) (m_enumerate : mg "enumerate" = none) : FnOk P w K mg base CX0 1 f fd ["amounts", "paid"] (spLeast K) := by
  refine D.F.ok sc_least_paid (fun vs H Q E h => ?_) (fun cdv A outer s H vs Q E hr h => ?_)
  · obtain ⟨a, p, as, ps, rfl, _⟩ := h
    rfl
  · obtain ⟨a, p, as, ps, rfl, T, k⟩ := h
    have la : (as.map V.int).length = as.length := List.length_map _
    refine ⟨_, pss_cons (ps_set (i := 2) sc_least_paid.nd rfl (.inl rfl) pe_non)
        (pss_cons (ps_for PassesOwn.never rfl (pi_enum (by rfl) m_enumerate (pa_cons (pv 0) pa_nil)) (pg_tup rfl (pgs_cons (pg_name (i := 3) sc_least_paid.nd rfl (.inl rfl)) (pgs_cons (pg_name (i := 4) sc_least_paid.nd rfl (.inl rfl)) pgs_nil))) (pss_one (ps_if (PW.pt (pw_and (pt_cmpR op_lt (pe_ix (r := rIxL K) ix_list (pv 1) (pv 3) (fun _ _ => rfl)) (pv 4) (nomark _)) (pw_and1 (PW.pt (pw_or (pt_cmpR op_isN (pv 2) pe_non (nomark _)) (pw_or1 (pt_cmpR op_lt (pe_op op_mul (pe_ix (r := rIxL K) ix_list (pv 1) (pv 3) (fun _ _ => rfl)) (pe_ix (r := rIxL K) ix_list (pv 0) (pv 2) (fun _ _ => rfl))) (pe_op op_mul (pe_ix (r := rIxL K) ix_list (pv 1) (pv 2) (fun _ _ => rfl)) (pv 4)) (nomark _)))))))) (pss_one (ps_set (i := 2) sc_least_paid.nd rfl (.inl rfl) (pv 3))) pss_nil)))
        (pss_one (ps_ret (pv 2)))), ?_⟩
    refine sq_val .non (fun Q k => k) ?_
    refine sq_forE (xs := as.map V.int) (fun Q k => ⟨_, rfl, k⟩) T.ha
      (fun i σ' H' => Same H H' ∧ ∃ y z, σ' = [some (.ref a), some (.ref p), some (optV (firstUp as ps i)), y, z]) ⟨Same.refl _, none, none, rfl⟩ (fun i σ' H' _ hP => hP.1.seq T.ha) (fun i x U σ' H' hx hP hU => ?_) (fun σ' H' hP => ?_)
    · obtain ⟨s1, y, z, rfl⟩ := hP
      have hi1 : i < as.length := by
        have := (List.getElem?_eq_some_iff.mp hx).1
        rw [la] at this
        exact this
      have ex : x = .int (g as i) := by
        rw [List.getElem?_map, g_get hi1] at hx
        exact (Option.some.inj hx).symm
      subst ex
      have hi2 : i < ps.length := by rw [T.len]; exact hi1
      have b1 := T.ba.g hi1
      have b2 := T.bp.g hi2
      have s2 : Same H (upd H' U (.tup [.int (i : Int), .int (g as i)])) := s1.trans (Same.new hU)
      have T2 := T.same s2
      refine ⟨U, _, rfl, st_of upd_same, rfl, _, _, rfl, _, _, rfl, rfl, ?_⟩
      refine if_ifP (p := g ps i < g as i ∧ ∀ f0, firstUp as ps i = some f0 → g ps i * g as f0 < g ps f0 * g as i) (fun Q k => ?_) (fun hyes => ?_) (fun hno => ?_)
      · refine ⟨_, rfl, _, rfl, p, _, _, _, rfl, rfl, T2.hp, atI_g rfl hi2, _, rfl, _, _, rfl, rfl, _, rfl, ?_⟩
        by_cases hlt : g ps i < g as i
        · rw [decide_eq_true hlt]
          refine iteT ⟨_, rfl, rfl, _, rfl, ?_⟩
          cases e : firstUp as ps i with
          | none =>
            refine iteT ?_
            have q : decide (g ps i < g as i ∧ ∀ f0, firstUp as ps i = some f0 → g ps i * g as f0 < g ps f0 * g as i) = true := decide_eq_true ⟨hlt, fun f0 z => by rw [e] at z; cases z⟩
            rw [q] at k
            exact k
          | some f0 =>
            have hf := fu_lt e
            have hf1 : f0 < as.length := by omega
            have hf2 : f0 < ps.length := by rw [T.len]; exact hf1
            have b4 := T.bp.g hf2
            refine iteF ⟨_, rfl, _, rfl, p, _, _, _, rfl, rfl, T2.hp, atI_g rfl hi2, _, rfl, _, rfl, a, _, _, _, rfl, rfl, T2.ha, atI_g rfl hf1, _, _, rfl, rfl, cmul_of b2, _, rfl, _, rfl, p, _, _, _, rfl, rfl, T2.hp, atI_g rfl hf2, _, rfl, _, _, rfl, rfl, cmul_of b4, _, _, rfl, rfl, _, rfl, ?_⟩
            have q : decide (g ps i * g as f0 < g ps f0 * g as i) = decide (g ps i < g as i ∧ ∀ f1, firstUp as ps i = some f1 → g ps i * g as f1 < g ps f1 * g as i) := by
              apply decide_eq_decide.mpr
              constructor
              · intro h
                refine ⟨hlt, fun f1 z => ?_⟩
                rw [e] at z
                cases z
                exact h
              · intro h
                exact h.2 f0 e
            rw [q]
            exact k
        · rw [decide_eq_false hlt]
          refine iteF ?_
          rw [decide_eq_false (fun z => hlt z.1)] at k
          exact k
      · refine ⟨_, rfl, s2, ?_⟩
        have e2 : firstUp as ps (i + 1) = some i := by
          cases e : firstUp as ps i with
          | none => exact fu_first hyes.1 e
          | some f0 => exact fu_less hyes.1 e (hyes.2 f0 e)
        rw [e2]
        exact ⟨_, _, rfl⟩
      · refine sq_nx ⟨s2, ?_⟩
        have e2 : firstUp as ps (i + 1) = firstUp as ps i := by
          by_cases hlt : g ps i < g as i
          · cases e : firstUp as ps i with
            | none => exact absurd ⟨hlt, fun f0 z => by rw [e] at z; cases z⟩ hno
            | some f0 =>
              refine fu_keep e fun h => hno ⟨hlt, fun f1 z => ?_⟩
              rw [e] at z
              cases z
              exact h
          · exact fu_skip hlt
        rw [e2]
        exact ⟨_, _, rfl⟩
    · obtain ⟨s1, y, z, rfl⟩ := hP
      rw [la]
      refine ⟨_, rfl, ?_⟩
      have q := k H' s1
      cases e : firstUp as ps as.length with
      | none => rw [e] at q; exact q
      | some f0 => rw [e] at q; exact q
theorem sc_shared : FnScope ["amounts", "coins", "whole", "paid", "_"] ["amounts", "coins"] (defScope s_shared) := ⟨rfl, rfl, rfl, by decide +kernel, rfl, by decide +kernel, by decide +kernel⟩
/- 0:amounts 1:coins 2:whole 3:paid 4:_ -/
theorem ok_shared {f : Addr} {fd : FuncData} (D : DefAt K mg "shared" s_shared ["amounts", "coins"] f fd) (m_range : mg "range" = none) (m_len : mg "len" = none) (m_max : mg "max" = none) (m_sum : mg "sum" = none) (m_list : mg "list" = none) (m_enumerate : mg "enumerate" = none)
    {f1 : Addr} {fd1 : FuncData} (D_first_coins : DefAt K mg "_first_coins" s_first_coins ["amounts", "coins"] f1 fd1)
    {f2 : Addr} {fd2 : FuncData} (D_least_paid : DefAt K mg "_least_paid" s_least_paid ["amounts", "paid"] f2 fd2) : FnOk P w K mg base CX0 2 f fd ["amounts", "coins"] (spShared K) := by
  have G_first_coins : FnOk P w K mg base CX0 1 f1 fd1 ["amounts", "coins"] (spFirstCoins K) := ok_first_coins D_first_coins m_max m_len m_sum
  have G_least_paid : FnOk P w K mg base CX0 1 f2 fd2 ["amounts", "paid"] (spLeast K) := ok_least_paid D_least_paid m_enumerate
  refine D.F.ok sc_shared (fun vs H Q E h => ?_) (fun cdv A outer s H vs Q E hr h => ?_)
  · obtain ⟨a, as, c, rfl, _⟩ := h
    rfl
  · obtain ⟨a, as, c, rfl, ha, M, k⟩ := h
    have hs := M.sum_le
    have hs0 := M.sum_nn
    have hsm := M.small
    refine ⟨_, pss_cons (ps_set (i := 2) sc_shared.nd rfl (.inl rfl) (pe_callB (r := rSum K) (cr_sum rfl) (by rfl) m_sum (by decide +kernel) (pa_cons (pv 0) pa_nil)))
        (pss_cons (ps_set (i := 1) sc_shared.nd rfl (.inl rfl) (pe_callB (call_max2 rfl) (by rfl) m_max (by decide +kernel) (pa_cons pe_int (pa_cons (pv 1) pa_nil))))
        (pss_cons (ps_if (pt_cmpR op_ge (pv 1) (pv 2) (nomark _)) (pss_one (ps_ret (pe_callTy (r := rListOf K) call_listOf (by rfl) m_list (by decide +kernel) (pa_cons (pv 0) pa_nil)))) pss_nil)
        (pss_cons (ps_set (i := 3) sc_shared.nd rfl (.inl rfl) (pe_call G_first_coins (hr.mono (by decide)) (by rfl) D_first_coins.g D_first_coins.F.kp D_first_coins.b .nil pass0 (pa_cons (pv 0) (pa_cons (pv 1) pa_nil))))
        (pss_cons (ps_for PassesOwn.never rfl (pi_range1 (by rfl) m_range (pa_cons (pe_op op_sub (pv 1) (pe_callB (r := rSum K) (cr_sum rfl) (by rfl) m_sum (by decide +kernel) (pa_cons (pv 3) pa_nil))) pa_nil)) (pg_name (i := 4) sc_shared.nd rfl (.inl rfl)) (pss_one (ps_augS (pv 3) (pe_call G_least_paid (hr.mono (by decide)) (by rfl) D_least_paid.g D_least_paid.F.kp D_least_paid.b .nil pass0 (pa_cons (pv 0) (pa_cons (pv 3) pa_nil))) get_list pe_int ip_add set_list)))
        (pss_one (ps_ret (pv 3))))))), ?_⟩
    refine sq_val (.int as.sum) (fun Q k => ⟨_, rfl, a, as, rfl, ha, k⟩) ?_
    refine sq_val (.int (max 0 c)) (fun Q k => ⟨_, rfl, _, _, rfl, by rw [max_if]; exact k⟩) ?_
    refine sq_whenP (p := as.sum ≤ max 0 c) (fun Q k => ⟨_, rfl, _, rfl, _, _, rfl, rfl, _, rfl, k⟩) (fun hge => ?_) (fun hlt => ?_)
    · refine ⟨_, rfl, a, _, rfl, .inl ha, fun l nl => k l _ nl (Same.new nl) ?_⟩
      rw [upd_same, ← full_share M.pos (by omega) hge]
    · refine sq_new (.lst ((startAt as (partsOf as (max 0 c))).map V.int)) (fun Q k => ⟨_, rfl, _, rfl, a, as, _, rfl, ha, M, by omega, by omega, k⟩) (fun p H1 np s1 hp => ?_)
      have hst := start_sum (c := max 0 c) M.pos (by omega) (by omega)
      have ne : as ≠ [] := fun z => by subst z; simp at hlt; omega
      have hl0 : 0 < as.length := List.length_pos_iff.mpr ne
      have V0 := start_valid (a := as) (p := partsOf as (max 0 c)) M.pos (by unfold partsOf; omega) (by unfold partsOf; omega) (by omega)
      have n0 := V0.sum_nn
      refine sq_forR (max 0 c - (startAt as (partsOf as (max 0 c))).sum) (fun Q k => ⟨_, rfl, _, rfl, p, _, rfl, sq_of hp, _, _, rfl, rfl, k⟩) (by omega)
        (fun i σ' H' => Same H H' ∧ H' p = some (.lst ((steps as i (startAt as (partsOf as (max 0 c)))).map V.int)) ∧ ∃ y, σ' = [some (.ref a), some (.int (max 0 c)), some (.int as.sum), some (.ref p), y]) ⟨s1, hp, none, rfl⟩ (fun i σ' H' hi hP => ?_) (fun σ' H' hP => ?_)
      · obtain ⟨s2, hp2, y, rfl⟩ := hP
        obtain ⟨W, sm⟩ := steps_ok M.pos V0 i (by omega)
        obtain ⟨f0, e, F⟩ := exists_first W (by omega) M.pos
        have hf2 : f0 < (steps as i (startAt as (partsOf as (max 0 c)))).length := by rw [W.len]; exact F.lt
        refine ⟨_, rfl, _, rfl, _, rfl, a, p, as, _, rfl, ⟨s2.seq ha, sq_of hp2, W.len, M.small, M.bnd, bnd_valid M.bnd W⟩, fun H3 s3 => ?_⟩
        rw [e]
        have hp3 := s3 _ _ hp2
        refine ⟨p, _, _, _, rfl, rfl, sq_of hp3, atI_g rfl hf2, _, _, rfl, rfl, p, _, _, f0, rfl, rfl, hp3, ixN_nat rfl (by rw [List.length_map]; exact hf2), ?_⟩
        refine ⟨Same.mut (s2.trans s3) np, ?_, _, rfl⟩
        rw [upd_same, map_set]
        show _ = some (HO.lst ((nextS as _).map V.int))
        rw [nextS_of e]
      · obtain ⟨s2, hp2, y, rfl⟩ := hP
        refine ⟨_, rfl, k p H' np s2 ?_⟩
        rw [hp2, prog_share M.pos (by omega) (by omega)]
end


end Rf
namespace Rf
open PySem PySem.Spec PyProof.Rows L2
def spLaw (K : PySem.W.Frag) : Sp := fun vs H Q _ => ∃ (a : Addr) (ns : List Int), vs = [.ref a] ∧ SqL K H a (ns.map V.int) ∧ ns.length ≤ 63 ∧ ∀ H', Q (.bl true) H'
theorem amts_of {as : List Int} (h : ∀ x ∈ as, 1 ≤ x ∧ x ≤ 999) (hl : as.length ≤ 7) : Amts as :=
  ⟨AllPos.of fun x hx => by have := h x hx; omega, fun x hx => by have := h x hx; omega, by omega⟩
theorem cut_back {xs : List Int} {y : V} : cutV (xs.map V.int ++ [y]) none (some (-1)) = xs.map V.int := by
  have hl : (xs.map V.int ++ [y]).length = xs.length + 1 := by simp
  unfold cutV
  rw [hl, HT.sIx_none]
  have e : HT.sIx (xs.length + 1) (xs.length + 1) (some (-1)) = xs.length := by
    simp [HT.sIx]
    omega
  rw [e]
  rw [List.drop_zero, Nat.sub_zero]
  exact List.take_left' (by simp)
section
variable {P : Program} {w : World} {K : PySem.W.Frag} {mg : Str → Option Value} {base : Heap}
theorem sc_law : FnScope ["_law_script", "_law_h", "_law_turn", "_law_most", "_law_amounts", "_law_coins", "_law_handed", "_law_found", "_law_more", "_law_whole", "_law_k"] ["_law_script"] (defScope s_law) := ⟨rfl, rfl, rfl, by decide +kernel, rfl, by decide +kernel, by decide +kernel⟩
theorem ok_law {f : Addr} {fd : FuncData} (D : DefAt K mg "law" s_law ["_law_script"] f fd) (m_range : mg "range" = none) (m_len : mg "len" = none) (m_max : mg "max" = none) (m_min : mg "min" = none) (m_sum : mg "sum" = none) (m_list : mg "list" = none) (m_enumerate : mg "enumerate" = none)
    (m_isinstance : mg "isinstance" = none) (m_bool : mg "bool" = none) (m_int : mg "int" = none)
    {f1 : Addr} {fd1 : FuncData} (D_first_coins : DefAt K mg "_first_coins" s_first_coins ["amounts", "coins"] f1 fd1)
    {f2 : Addr} {fd2 : FuncData} (D_least_paid : DefAt K mg "_least_paid" s_least_paid ["amounts", "paid"] f2 fd2)
    {f3 : Addr} {fd3 : FuncData} (D_shared : DefAt K mg "shared" s_shared ["amounts", "coins"] f3 fd3)
    {f4 : Addr} {fd4 : FuncData} (D_next : DefAt K mg "_law_next" s_next ["_law_h", "_law_many"] f4 fd4)
    {f5 : Addr} {fd5 : FuncData} (D_first : DefAt K mg "_law_first" s_first ["_law_amounts", "_law_paid"] f5 fd5)
    {f6 : Addr} {fd6 : FuncData} (D_lshared : DefAt K mg "_law_shared" s_lshared ["_law_amounts", "_law_coins"] f6 fd6)
    {f7 : Addr} {fd7 : FuncData} (D_are : DefAt K mg "_law_are" s_are ["_law_found", "_law_due"] f7 fd7)
    {f8 : Addr} {fd8 : FuncData} (D_isnext : DefAt K mg "_law_is_next" s_isnext ["_law_amounts", "_law_found", "_law_more"] f8 fd8) : FnOk P w K mg base CX0 4 f fd ["_law_script"] (spLaw K) := by
  have G_shared : FnOk P w K mg base CX0 2 f3 fd3 ["amounts", "coins"] (spShared K) := ok_shared D_shared m_range m_len m_max m_sum m_list m_enumerate D_first_coins D_least_paid
  have G_next : FnOk P w K mg base CX0 1 f4 fd4 ["_law_h", "_law_many"] spNext := ok_next D_next m_max m_len
  have G_lshared : FnOk P w K mg base CX0 2 f6 fd6 ["_law_amounts", "_law_coins"] (spLShared K) := ok_lshared D_lshared m_range m_len m_min m_sum D_first
  have G_are : FnOk P w K mg base CX0 1 f7 fd7 ["_law_found", "_law_due"] (spAre K) := ok_are D_are m_range m_len m_isinstance m_list m_bool m_int
  have G_isnext : FnOk P w K mg base CX0 2 f8 fd8 ["_law_amounts", "_law_found", "_law_more"] (spIsNext K) := ok_isnext D_isnext m_range m_len D_first
  refine D.F.ok sc_law (fun vs H Q E h => ?_) (fun cdv A outer s H vs Q E hr h => ?_)
  · obtain ⟨a, ns, rfl, _⟩ := h
    rfl
  · obtain ⟨a, ns, rfl, ha, hns, k⟩ := h
    refine ⟨_, pss_cons (ps_set (i := 1) sc_law.nd rfl (.inr rfl) (pe_lst (pa_cons pe_int (pa_cons (pe_callTy (r := rListOf K) call_listOf (by rfl) m_list (by decide +kernel) (pa_cons (pv 0) pa_nil)) (pa_cons pe_int pa_nil)))))
        (pss_cons (ps_for PassesOwn.never rfl (pi_range1 (by rfl) m_range (pa_cons pe_int pa_nil)) (pg_name (i := 2) sc_law.nd rfl (.inl rfl)) (pss_cons (ps_set (i := 3) sc_law.nd rfl (.inr rfl) (pe_ix (r := rIxL K) ix_list (pe_lst (pa_cons pe_int (pa_cons pe_int (pa_cons pe_int pa_nil)))) (pv 2) (fun _ _ => rfl)))
          (pss_cons (ps_setLc (i := 4) (own := [("_law_k", 10)]) (g := gName 10) (tt := tYes) (by rfl) sc_law.nd rfl rfl (sw_true rfl rfl rfl (by decide +kernel)) (pi_range1 (by rfl) m_range (pa_cons (pe_call G_next (hr.mono (by decide)) (by rfl) D_next.g D_next.F.kp D_next.b .nil pass0 (pa_cons (pv 1) (pa_cons pe_int pa_nil))) pa_nil)) (blkOk_by (own := [("_law_k", 10)]) (N := ["_law_script", "_law_h", "_law_turn", "_law_most", "_law_amounts", "_law_coins", "_law_handed", "_law_found", "_law_more", "_law_whole", "_law_k"]) (sc := defScope s_law) (by decide +kernel)) (fun _ _ _ _ _ => (pg_name (i := 10) sc_law.nd rfl (.inl rfl))) (fun _ _ _ _ _ => pts_nil) (fun _ _ _ _ _ => (pe_op op_add pe_int (pe_call G_next (hr.mono (by decide)) (by rfl) D_next.g D_next.F.kp D_next.b .nil pass0 (pa_cons (pv 1) (pa_cons (pv 3) pa_nil))))))
          (Evl.pss_cut (ps_if (PW.pt (pw_and (pt_cmpR (op_neD hr.units) (pv 4) (pe_lst pa_nil) (nomark _)) (pw_and1 (pt_cmpR op_eq (pe_call G_next (hr.mono (by decide)) (by rfl) D_next.g D_next.F.kp D_next.b .nil pass0 (pa_cons (pv 1) (pa_cons pe_int pa_nil))) pe_int (nomark _))))) (pss_one (ps_expr (pe_bm PySem.F.plainAttrs_list PySem.F.slot_list_append PySem.F.type_list_append mt_append (pv 4) (pa_cons (pe_ix (r := rIxL K) ix_list (pv 4) pe_int (fun _ _ => rfl)) pa_nil)))) pss_nil)
          (pss_cons (ps_set (i := 5) sc_law.nd rfl (.inl rfl) (pe_call G_next (hr.mono (by decide)) (by rfl) D_next.g D_next.F.kp D_next.b .nil pass0 (pa_cons (pv 1) (pa_cons (pe_op op_add (pe_callB (r := rSum K) (cr_sum rfl) (by rfl) m_sum (by decide +kernel) (pa_cons (pv 4) pa_nil)) pe_int) pa_nil))))
          (pss_cons (ps_set (i := 6) sc_law.nd rfl (.inl rfl) (pe_callTy (r := rListOf K) call_listOf (by rfl) m_list (by decide +kernel) (pa_cons (pv 4) pa_nil)))
          (pss_cons (ps_set (i := 7) sc_law.nd rfl (.inl rfl) (pe_call G_shared (hr.mono (by decide)) (by rfl) D_shared.g D_shared.F.kp D_shared.b .nil pass0 (pa_cons (pv 6) (pa_cons (pv 5) pa_nil))))
          (pss_cons (ps_if (PW.pt (pw_or (pt_not (pt_val (pe_call G_are (hr.mono (by decide)) (by rfl) D_are.g D_are.F.kp D_are.b .nil pass0 (pa_cons (pv 7) (pa_cons (pe_call G_lshared (hr.mono (by decide)) (by rfl) D_lshared.g D_lshared.F.kp D_lshared.b .nil pass0 (pa_cons (pv 4) (pa_cons (pv 5) pa_nil))) pa_nil))))) (pw_or1 (pt_cmpR (op_neD hr.units) (pv 6) (pv 4) (nomark _))))) (pss_one (ps_ret pe_bl)) pss_nil)
          (pss_cons (ps_set (i := 8) sc_law.nd rfl (.inl rfl) (pe_call G_shared (hr.mono (by decide)) (by rfl) D_shared.g D_shared.F.kp D_shared.b .nil pass0 (pa_cons (pv 4) (pa_cons (pe_op op_add (pv 5) pe_int) pa_nil))))
          (pss_cons (ps_if (PW.pt (pw_and (pt_cmpR op_lt (pv 5) (pe_callB (r := rSum K) (cr_sum rfl) (by rfl) m_sum (by decide +kernel) (pa_cons (pv 4) pa_nil)) (nomark _)) (pw_and1 (pt_not (pt_val (pe_call G_isnext (hr.mono (by decide)) (by rfl) D_isnext.g D_isnext.F.kp D_isnext.b .nil pass0 (pa_cons (pv 4) (pa_cons (pv 7) (pa_cons (pv 8) pa_nil))))))))) (pss_one (ps_ret pe_bl)) pss_nil)
          (pss_cons (ps_expr (pe_bm PySem.F.plainAttrs_list PySem.F.slot_list_append PySem.F.type_list_append mt_append (pv 7) (pa_cons pe_int pa_nil)))
          (pss_cons (ps_if (PW.pt (pw_or (pt_cmpR (op_neD hr.units) (pe_call G_shared (hr.mono (by decide)) (by rfl) D_shared.g D_shared.F.kp D_shared.b .nil pass0 (pa_cons (pv 4) (pa_cons (pv 5) pa_nil))) (pe_slice sl_list (pv 7) po_none (po_some (pe_un un_neg pe_int))) (nomark _)) (pw_or1 (pt_cmpR (op_neD hr.units) (pv 6) (pv 4) (nomark _))))) (pss_one (ps_ret pe_bl)) pss_nil)
          (pss_cons (ps_set (i := 9) sc_law.nd rfl (.inl rfl) (pe_call G_shared (hr.mono (by decide)) (by rfl) D_shared.g D_shared.F.kp D_shared.b .nil pass0 (pa_cons (pv 6) (pa_cons (pe_op op_add (pe_callB (r := rSum K) (cr_sum rfl) (by rfl) m_sum (by decide +kernel) (pa_cons (pv 4) pa_nil)) (pe_call G_next (hr.mono (by decide)) (by rfl) D_next.g D_next.F.kp D_next.b .nil pass0 (pa_cons (pv 1) (pa_cons pe_int pa_nil)))) pa_nil))))
          (pss_cons (ps_expr (pe_bm PySem.F.plainAttrs_list PySem.F.slot_list_append PySem.F.type_list_append mt_append (pv 9) (pa_cons pe_int pa_nil)))
          (pss_one (ps_if (pt_cmpR (op_neD hr.units) (pv 6) (pv 4) (nomark _)) (pss_one (ps_ret pe_bl)) pss_nil))))))))))))))))
        (pss_one (ps_ret (pe_and (pe_cmpR (op_eqD hr.units) (pe_call G_shared (hr.mono (by decide)) (by rfl) D_shared.g D_shared.F.kp D_shared.b .nil pass0 (pa_cons (pe_lst pa_nil) (pa_cons pe_int pa_nil))) (pe_lst pa_nil) (nomark _)) (pe_and (pe_cmpR (op_eqD hr.units) (pe_call G_shared (hr.mono (by decide)) (by rfl) D_shared.g D_shared.F.kp D_shared.b .nil pass0 (pa_cons (pe_lst (pa_cons pe_int (pa_cons pe_int pa_nil))) (pa_cons pe_int pa_nil))) (pe_lst (pa_cons pe_int (pa_cons pe_int pa_nil))) (nomark _)) (pe_one (pe_cmpR (op_eqD hr.units) (pe_call G_shared (hr.mono (by decide)) (by rfl) D_shared.g D_shared.F.kp D_shared.b .nil pass0 (pa_cons (pe_lst (pa_cons pe_int (pa_cons pe_int pa_nil))) (pa_cons pe_int pa_nil))) (pe_lst (pa_cons pe_int (pa_cons pe_int pa_nil))) (nomark _)))))))), ?_⟩
    -- the draws
    refine sq_set (fun v H1 => ∃ h c, v = .ref h ∧ RngAt H1 h c) (fun Q k => ?_) (fun v H1 hv => ?_)
    · refine ⟨_, rfl, a, _, rfl, .inl ha, fun c nc => ⟨by show 3 ≤ sizeLine; decide, fun h nh => k _ _ ⟨h, c, rfl, ?_⟩⟩⟩
      have nhc : h ≠ c := fun z => by rw [z, upd_same] at nh; cases nh
      exact ⟨nhc, 11, 0, ns, upd_same, by rw [upd_ne nhc.symm, upd_same], by decide, by decide, by decide, hns⟩
    obtain ⟨h, c, rfl, R⟩ := hv
    refine sq_forR 3 (fun Q k => k) (by decide) (fun i σ' H' => RngAt H' h c ∧ ∃ y2 y3 y4 y5 y6 y7 y8 y9 y10, σ' = [some (.ref a), some (.ref h), y2, y3, y4, y5, y6, y7, y8, y9, y10]) ⟨R, none, none, none, none, none, none, none, none, none, rfl⟩ (fun i σ' H' hi hP => ?_) (fun σ' H' hP => ?_)
    · obtain ⟨R0, y2, y3, y4, y5, y6, y7, y8, y9, y10, rfl⟩ := hP
      -- most
      refine sq_set (fun v H1 => Same H' H1 ∧ ∃ m : Int, v = .int m ∧ 1 ≤ m ∧ m ≤ 999) (fun Q k => ?_) (fun v H1 hv => ?_)
      · refine ⟨by decide, fun l nl => ⟨_, rfl, l, [.int 9, .int 40, .int 999], (i : Int), .int (if i = 0 then 9 else if i = 1 then 40 else 999), rfl, rfl, sq_of upd_same, ?_, k _ _ ⟨Same.new nl, _, rfl, ?_⟩⟩⟩
        · have : i = 0 ∨ i = 1 ∨ i = 2 := by omega
          rcases this with rfl | rfl | rfl <;> rfl
        · split
          · omega
          · split <;> omega
      obtain ⟨s1, m, rfl, m0, m1⟩ := hv
      have R1 := R0.same s1
      -- amounts
      refine sq_set (fun v H2 => ∃ (d : Addr) (as : List Int), v = .ref d ∧ H1 d = none ∧ Fr h c H1 H2 ∧ H2 d = some (.lst (as.map V.int)) ∧ as.length ≤ 6 ∧ ∀ x ∈ as, 1 ≤ x ∧ x ≤ 999) (fun Q k => ?_) (fun v H2 hv => ?_)
      · refine ⟨_, rfl, h, c, 7, rfl, R1, by decide, by decide, fun r H2 r0 r1 R2 o2 => ⟨r, rfl, by omega, by omega, fun d nd => ?_⟩⟩
        have F2 : Fr h c H1 H2 := ⟨o2, R2⟩
        have nd1 := F2.free nd
        have nhd := R2.fresh nd
        refine lc_range (lo := 0) (n := r.toNat) (fun i H' => Fr h c H1 H' ∧ ∃ as : List Int, H' d = some (.lst (as.map V.int)) ∧ as.length = i ∧ ∀ x ∈ as, 1 ≤ x ∧ x ≤ 999) ⟨F2.new nd, [], upd_same, rfl, fun x hx => nomatch hx⟩ (fun i H' hi hP => ?_) (fun H' hP => ?_)
        · obtain ⟨F3, as, hd, hl, hb⟩ := hP
          refine ⟨rfl, _, rfl, _, rfl, h, c, m, rfl, F3.rng, by omega, by omega, fun q H4 q0 q1 R4 o4 => ⟨_, _, rfl, rfl, _, o4 d _ hd nhd, ?_, (F3.trans ⟨o4, R4⟩).mut nd1 nhd, as ++ [1 + q], ?_, ?_, ?_⟩⟩
          · rw [List.length_map]
            exact sz_lt (by omega)
          · rw [upd_same, List.map_append]
            rfl
          · rw [List.length_append, hl]
            rfl
          · intro x hx
            rcases List.mem_append.mp hx with hx | hx
            · exact hb x hx
            · rw [List.mem_singleton.mp hx]
              omega
        · obtain ⟨F3, as, hd, hl, hb⟩ := hP
          exact k _ _ ⟨d, as, rfl, nd1, F3, hd, by omega, hb⟩
      obtain ⟨d, as, rfl, nd, F2, hd, hl, hb⟩ := hv
      have nhd := R1.fresh nd
      -- one once more
      refine sq_cut (fun σ' H3 => ∃ as : List Int, σ' = [some (.ref a), some (.ref h), some (.int (i : Int)), some (.int m), some (.ref d), y5, y6, y7, y8, y9, y10] ∧ RngAt H3 h c ∧ H3 d = some (.lst (as.map V.int)) ∧ as.length ≤ 7 ∧ ∀ x ∈ as, 1 ≤ x ∧ x ≤ 999) ?_ (fun σ' H3 hM => ?_)
      · have R2 := F2.rng
        refine ⟨_, rfl, Nat.zero_le _, fun l nl => ⟨dInts as, dInts [], dp_ints (sq_of (Same.new nl _ _ hd)), dp_ints (l := []) (sq_of upd_same), sh_ints, sh_ints, _, rfl, ?_⟩⟩
        rw [eqv_ints]
        by_cases e : as = []
        · rw [decide_eq_true e]
          refine iteF (iteF ⟨as, rfl, (Fr.refl R2).new nl |>.rng, Same.new nl _ _ hd, by omega, hb⟩)
        · rw [decide_eq_false e]
          refine iteT ⟨_, rfl, h, c, 3, rfl, ((Fr.refl R2).new nl).rng, by decide, by decide, fun r H4 r0 r1 R4 o4 => ⟨rfl, _, rfl, ?_⟩⟩
          have hd4 := o4 d _ (Same.new nl _ _ hd) nhd
          by_cases e3 : V.int r = V.int 0
          · rw [decide_eq_true e3]
            have h0 : 0 < as.length := List.length_pos_iff.mpr e
            refine iteT ⟨_, rfl, .inl ⟨rfl, _, sq_of hd4⟩, _, rfl, d, _, 0, _, rfl, rfl, sq_of hd4, atI_g (j := 0) rfl h0, d, _, _, rfl, rfl, hd4, ?_, as ++ [g as 0], rfl, R4.upd nhd, ?_, ?_, ?_⟩
            · rw [List.length_map]
              exact sz_lt (by omega)
            · rw [upd_same, List.map_append]
              rfl
            · rw [List.length_append]
              show as.length + 1 ≤ 7
              omega
            · intro x hx
              rcases List.mem_append.mp hx with hx | hx
              · exact hb x hx
              · rw [List.mem_singleton.mp hx]
                exact hb _ (g_mem h0)
          · rw [decide_eq_false e3]
            exact iteF ⟨as, rfl, R4, hd4, by omega, hb⟩
      clear hd hl hb F2
      obtain ⟨as, rfl, R3, hd, hl, hb⟩ := hM
      have M := amts_of hb hl
      have la : (as.map V.int).length = as.length := List.length_map _
      have hs0 := M.sum_nn
      have hs1 := M.sum_le
      -- coins
      refine sq_set (fun v H4 => ∃ cn : Int, v = .int cn ∧ 0 ≤ cn ∧ cn < as.sum + 3 ∧ Fr h c H3 H4) (fun Q k => ⟨_, rfl, _, rfl, d, as, rfl, sq_of hd, _, _, rfl, rfl, h, c, _, rfl, R3, by omega, by omega, fun r H4 r0 r1 R4 o4 => k _ _ ⟨r, rfl, r0, r1, o4, R4⟩⟩) (fun v H4 hv => ?_)
      obtain ⟨cn, rfl, c0, c1, F4⟩ := hv
      have hd4 := F4.get hd nhd
      -- handed
      refine sq_new (.lst (as.map V.int)) (fun Q k => ⟨_, rfl, d, _, rfl, .inl (sq_of hd4), fun l nl => k l _ nl (Same.new nl) upd_same⟩) (fun e H5 ne s5 he => ?_)
      have R5 := F4.rng.same s5
      have hd5 := s5 _ _ hd4
      have nhe := F4.rng.fresh ne
      -- found
      refine sq_new (.lst ((share as cn).map V.int)) (fun Q k => ⟨_, rfl, _, rfl, e, as, cn, rfl, sq_of he, M, fun p H' np s hp => k p H' np s (by rw [hp, Int.max_eq_right c0])⟩) (fun fo H6 nf s6 hf => ?_)
      have R6 := R5.same s6
      have hd6 := s6 _ _ hd5
      have he6 := s6 _ _ he
      have nhf := R5.fresh nf
      obtain ⟨W, sw⟩ := share_ok M.pos c0
      have hnd : (!PyData.eqv (dInts as) (dInts as)) = false := by
        rw [eqv_ints, decide_eq_true rfl]
        rfl
      refine sq_no (fun H7 => Same H6 H7) (fun Q k => ?_) (fun H7 s7 => ?_)
      · refine ⟨_, rfl, _, rfl, _, rfl, d, as, cn, rfl, sq_of hd6, M, c0, fun p H7 np s7 hp => ⟨fo, p, share as cn, share as cn, rfl, s7 _ _ hf, sq_of hp, by rw [W.len]; omega, ?_⟩⟩
        rw [decide_eq_true rfl]
        refine ⟨_, rfl, iteF ⟨_, rfl, _, rfl, dInts as, dInts as, dp_ints (sq_of (s7 _ _ he6)), dp_ints (sq_of (s7 _ _ hd6)), sh_ints, sh_ints, _, rfl, ?_⟩⟩
        rw [hnd]
        exact k H7 s7
      have R7 := R6.same s7
      have hd7 := s7 _ _ hd6
      have he7 := s7 _ _ he6
      have hf7 := s7 _ _ hf
      -- more
      refine sq_new (.lst ((share as (cn + 1)).map V.int)) (fun Q k => ⟨_, rfl, _, rfl, _, _, rfl, rfl, d, as, cn + 1, rfl, sq_of hd7, M, fun p H' np s hp => k p H' np s (by rw [hp, Int.max_eq_right (by omega)])⟩) (fun mo H8 nm s8 hm => ?_)
      have hd8 := s8 _ _ hd7
      have he8 := s8 _ _ he7
      have hf8 := s8 _ _ hf7
      refine sq_no (fun H9 => Same H8 H9) (fun Q k => ?_) (fun H9 s9 => ?_)
      · refine ⟨_, rfl, _, rfl, d, as, rfl, sq_of hd8, _, _, rfl, rfl, _, rfl, ?_⟩
        by_cases hlt : cn < as.sum
        · rw [decide_eq_true hlt]
          obtain ⟨f0, e0, F0⟩ := exists_first W (by rw [sw]; omega) M.pos
          have en : share as (cn + 1) = (share as cn).set f0 (g (share as cn) f0 + 1) := by
            rw [share_next M.pos c0 hlt, nextS_of e0]
          refine iteT ⟨_, rfl, _, rfl, _, rfl, d, fo, mo, as, share as cn, f0, rfl, ⟨sq_of hd8, sq_of hf8, W.len, M.small, M.bnd, bnd_valid M.bnd W⟩, e0, sq_of (by rw [hm, en]), fun H' s' => ⟨_, rfl, k H' s'⟩⟩
        · rw [decide_eq_false hlt]
          exact iteF (k H8 (Same.refl _))
      have R9 := (R7.same s8).same s9
      have hd9 := s9 _ _ hd8
      have he9 := s9 _ _ he8
      have hf9 := s9 _ _ hf8
      -- found.append(0)
      have nfd : d ≠ fo := ne_of_none hd5 nf
      have nfe : e ≠ fo := ne_of_none he nf
      refine sq_drop (fun H10 => H10 = upd H9 fo (.lst ((share as cn).map V.int ++ [.int 0]))) (fun Q k => ⟨_, rfl, .inl ⟨rfl, _, sq_of hf9⟩, fo, _, _, rfl, rfl, hf9, by rw [List.length_map, W.len]; exact sz_lt (by omega), k _ _ rfl⟩) (fun H10 e10 => ?_)
      subst e10
      have R10 := R9.upd (o := .lst ((share as cn).map V.int ++ [.int 0])) nhf
      have hd10 : upd H9 fo (.lst ((share as cn).map V.int ++ [.int 0])) d = some (.lst (as.map V.int)) := by
        rw [upd_ne nfd]
        exact hd9
      have he10 : upd H9 fo (.lst ((share as cn).map V.int ++ [.int 0])) e = some (.lst (as.map V.int)) := by
        rw [upd_ne nfe]
        exact he9
      have hf10 : upd H9 fo (.lst ((share as cn).map V.int ++ [.int 0])) fo = some (.lst ((share as cn).map V.int ++ [.int 0])) := upd_same
      generalize hG : upd H9 fo (.lst ((share as cn).map V.int ++ [.int 0])) = G at R10 hd10 he10 hf10
      refine sq_no (fun H11 => Same G H11) (fun Q k => ?_) (fun H11 s11 => ?_)
      · refine ⟨_, rfl, _, rfl, d, as, cn, rfl, sq_of hd10, M, fun p H' np s' hp => ?_⟩
        refine ⟨_, rfl, 1, rfl, -1, rfl, fo, _, rfl, sq_of (s' _ _ hf10), fun q nq => ?_⟩
        rw [Int.max_eq_right c0] at hp
        refine ⟨dInts (share as cn), dInts (share as cn), dp_ints (sq_of (Same.new nq _ _ hp)), dp_ints (sq_of (by rw [upd_same, cut_back])), sh_ints, sh_ints, _, rfl, ?_⟩
        rw [eqv_ints, decide_eq_true rfl]
        refine iteF ⟨_, rfl, _, rfl, dInts as, dInts as, dp_ints (sq_of (Same.new nq _ _ (s' _ _ he10))), dp_ints (sq_of (Same.new nq _ _ (s' _ _ hd10))), sh_ints, sh_ints, _, rfl, ?_⟩
        rw [hnd]
        exact k _ (s'.trans (Same.new nq))
      have R11 := R10.same s11
      have hd11 := s11 _ _ hd10
      have he11 := s11 _ _ he10
      -- whole
      refine sq_set (fun v H12 => ∃ (wo : Addr) (ws : List Int), v = .ref wo ∧ Fr h c H11 H12 ∧ H11 wo = none ∧ H12 wo = some (.lst (ws.map V.int)) ∧ ws.length ≤ 7) (fun Q k => ?_) (fun v H12 hv => ?_)
      · refine ⟨_, rfl, _, rfl, d, as, rfl, sq_of hd11, _, rfl, h, c, 3, rfl, R11, by decide, by decide, fun r H4 r0 r1 R4 o4 => ⟨_, _, rfl, rfl, e, as, _, rfl, sq_of (o4 _ _ he11 nhe), M, fun p H' np s' hp => ?_⟩⟩
        have F4' : Fr h c H11 H4 := ⟨o4, R4⟩
        obtain ⟨W2, _⟩ := share_ok (c := max 0 (as.sum + r)) M.pos (by omega)
        exact k _ _ ⟨p, share as (max 0 (as.sum + r)), rfl, F4'.same s', F4'.free np, hp, by rw [W2.len]; exact hl⟩
      obtain ⟨wo, ws, rfl, F12, nw, hw, hwl⟩ := hv
      have hd12 := F12.get hd11 nhd
      have he12 := F12.get he11 nhe
      have nwd : d ≠ wo := ne_of_none hd11 nw
      have nwe : e ≠ wo := ne_of_none he11 nw
      refine sq_drop (fun H10 => H10 = upd H12 wo (.lst (ws.map V.int ++ [.int 0]))) (fun Q k => ⟨_, rfl, .inl ⟨rfl, _, sq_of hw⟩, wo, _, _, rfl, rfl, hw, by rw [List.length_map]; exact sz_lt (by omega), k _ _ rfl⟩) (fun H10 e10 => ?_)
      subst e10
      refine ⟨_, rfl, _, rfl, dInts as, dInts as, dp_ints (sq_of (by rw [upd_ne nwe]; exact he12)), dp_ints (sq_of (by rw [upd_ne nwd]; exact hd12)), sh_ints, sh_ints, _, rfl, ?_⟩
      rw [hnd]
      exact iteF ⟨F12.rng.upd (R11.fresh nw), _, _, _, _, _, _, _, _, _, rfl⟩
    · obtain ⟨R0, y2, y3, y4, y5, y6, y7, y8, y9, y10, rfl⟩ := hP
      have M0 : Amts [] := amts_of (fun x hx => nomatch hx) (by decide)
      have M1 : Amts [3, 3] := amts_of (by decide) (by decide)
      have M2 : Amts [1, 5] := amts_of (by decide) (by decide)
      refine ⟨Nat.zero_le _, fun l1 n1 => ⟨l1, [], 5, rfl, sq_of upd_same, M0, fun p1 H1 np1 s1 hp1 => ⟨Nat.zero_le _, fun l2 n2 => ⟨dInts [], dInts [], dp_ints (sq_of (Same.new n2 _ _ hp1)), dp_ints (l := []) (sq_of upd_same), sh_ints, sh_ints, true, by rw [eqv_ints]; rfl, iteT ?_⟩⟩⟩⟩
      refine ⟨by decide, fun l3 n3 => ⟨l3, [3, 3], 1, rfl, sq_of upd_same, M1, fun p3 H3 np3 s3 hp3 => ⟨by decide, fun l4 n4 => ⟨dInts [1, 0], dInts [1, 0], dp_ints (sq_of (Same.new n4 _ _ hp3)), dp_ints (l := [1, 0]) (sq_of upd_same), sh_ints, sh_ints, true, by rw [eqv_ints]; rfl, iteT ?_⟩⟩⟩⟩
      refine ⟨by decide, fun l5 n5 => ⟨l5, [1, 5], 100, rfl, sq_of upd_same, M2, fun p5 H5 np5 s5 hp5 => ⟨by decide, fun l6 n6 => ⟨dInts [1, 5], dInts [1, 5], dp_ints (sq_of (Same.new n6 _ _ hp5)), dp_ints (l := [1, 5]) (sq_of upd_same), sh_ints, sh_ints, ?_⟩⟩⟩⟩
      rw [eqv_ints, decide_eq_true rfl]
      exact k _
end


end Rf
namespace Rf
open PySem PySem.Spec PyProof.Rows L2
/-! ### what the top has written; the law's own head -/
theorem all_mk {l : PySem.W.OpenLaw} {w : World} {K : PySem.W.Frag} {h : Heap} {mg : Str → Option Value} {fa f1 f2 f3 f4 f5 f6 f7 f8 f9 : Addr} (X : K.In h) (G : h.Ns mainGlobals mg) (hfa : mg "law" = some (.ref fa))
    {od1 an1 od2 an2 od3 an3 od4 an4 od5 an5 od6 an6 od7 an7 od8 an8 od9 an9 : Option Addr} {sl1 sl2 sl3 sl4 sl5 sl6 sl7 sl8 sl9 : Array (Option Value)}
    {oc1 kV1 dc1 pm1 cd1 ct1 oc2 kV2 dc2 pm2 cd2 ct2 oc3 kV3 dc3 pm3 cd3 ct3 oc4 kV4 dc4 pm4 cd4 ct4 oc5 kV5 dc5 pm5 cd5 ct5 oc6 kV6 dc6 pm6 cd6 ct6 oc7 kV7 dc7 pm7 cd7 ct7 oc8 kV8 dc8 pm8 cd8 ct8 oc9 kV9 dc9 pm9 cd9 ct9 : Value}
    (a1 : PySem.W.nsIn K mainGlobals "shared" = some (some (.ref f1))) (l1 : K.lookup f1 = some ⟨oc1, od1, .func (PySem.W.fnOf "shared" "shared" (defArgs s_shared) (defBody s_shared) (defScope s_shared) .none kV1 dc1 pm1 an1 cd1 ct1), sl1⟩) (c1 : PySem.W.codeIn K cd1 "shared" = true) (k1 : PySem.W.keepIn K (.ref f1) = true)
    (a2 : PySem.W.nsIn K mainGlobals "_first_coins" = some (some (.ref f2))) (l2 : K.lookup f2 = some ⟨oc2, od2, .func (PySem.W.fnOf "_first_coins" "_first_coins" (defArgs s_first_coins) (defBody s_first_coins) (defScope s_first_coins) .none kV2 dc2 pm2 an2 cd2 ct2), sl2⟩) (c2 : PySem.W.codeIn K cd2 "_first_coins" = true) (k2 : PySem.W.keepIn K (.ref f2) = true)
    (a3 : PySem.W.nsIn K mainGlobals "_least_paid" = some (some (.ref f3))) (l3 : K.lookup f3 = some ⟨oc3, od3, .func (PySem.W.fnOf "_least_paid" "_least_paid" (defArgs s_least_paid) (defBody s_least_paid) (defScope s_least_paid) .none kV3 dc3 pm3 an3 cd3 ct3), sl3⟩) (c3 : PySem.W.codeIn K cd3 "_least_paid" = true) (k3 : PySem.W.keepIn K (.ref f3) = true)
    (a4 : PySem.W.nsIn K mainGlobals "_law_next" = some (some (.ref f4))) (l4 : K.lookup f4 = some ⟨oc4, od4, .func (PySem.W.fnOf "_law_next" "_law_next" (defArgs s_next) (defBody s_next) (defScope s_next) .none kV4 dc4 pm4 an4 cd4 ct4), sl4⟩) (c4 : PySem.W.codeIn K cd4 "_law_next" = true) (k4 : PySem.W.keepIn K (.ref f4) = true)
    (a5 : PySem.W.nsIn K mainGlobals "_law_first" = some (some (.ref f5))) (l5 : K.lookup f5 = some ⟨oc5, od5, .func (PySem.W.fnOf "_law_first" "_law_first" (defArgs s_first) (defBody s_first) (defScope s_first) .none kV5 dc5 pm5 an5 cd5 ct5), sl5⟩) (c5 : PySem.W.codeIn K cd5 "_law_first" = true) (k5 : PySem.W.keepIn K (.ref f5) = true)
    (a6 : PySem.W.nsIn K mainGlobals "_law_shared" = some (some (.ref f6))) (l6 : K.lookup f6 = some ⟨oc6, od6, .func (PySem.W.fnOf "_law_shared" "_law_shared" (defArgs s_lshared) (defBody s_lshared) (defScope s_lshared) .none kV6 dc6 pm6 an6 cd6 ct6), sl6⟩) (c6 : PySem.W.codeIn K cd6 "_law_shared" = true) (k6 : PySem.W.keepIn K (.ref f6) = true)
    (a7 : PySem.W.nsIn K mainGlobals "_law_are" = some (some (.ref f7))) (l7 : K.lookup f7 = some ⟨oc7, od7, .func (PySem.W.fnOf "_law_are" "_law_are" (defArgs s_are) (defBody s_are) (defScope s_are) .none kV7 dc7 pm7 an7 cd7 ct7), sl7⟩) (c7 : PySem.W.codeIn K cd7 "_law_are" = true) (k7 : PySem.W.keepIn K (.ref f7) = true)
    (a8 : PySem.W.nsIn K mainGlobals "_law_is_next" = some (some (.ref f8))) (l8 : K.lookup f8 = some ⟨oc8, od8, .func (PySem.W.fnOf "_law_is_next" "_law_is_next" (defArgs s_isnext) (defBody s_isnext) (defScope s_isnext) .none kV8 dc8 pm8 an8 cd8 ct8), sl8⟩) (c8 : PySem.W.codeIn K cd8 "_law_is_next" = true) (k8 : PySem.W.keepIn K (.ref f8) = true)
    (a9 : PySem.W.nsIn K mainGlobals "law" = some (some (.ref f9))) (l9 : K.lookup f9 = some ⟨oc9, od9, .func (PySem.W.fnOf "law" "law" (defArgs s_law) (defBody s_law) (defScope s_law) .none kV9 dc9 pm9 an9 cd9 ct9), sl9⟩) (c9 : PySem.W.codeIn K cd9 "law" = true) (k9 : PySem.W.keepIn K (.ref f9) = true)
    (z1 : PySem.W.nsIn K mainGlobals "range" = some none)
    (z2 : PySem.W.nsIn K mainGlobals "len" = some none)
    (z3 : PySem.W.nsIn K mainGlobals "max" = some none)
    (z4 : PySem.W.nsIn K mainGlobals "min" = some none)
    (z5 : PySem.W.nsIn K mainGlobals "sum" = some none)
    (z6 : PySem.W.nsIn K mainGlobals "list" = some none)
    (z7 : PySem.W.nsIn K mainGlobals "enumerate" = some none)
    (z8 : PySem.W.nsIn K mainGlobals "isinstance" = some none)
    (z9 : PySem.W.nsIn K mainGlobals "bool" = some none)
    (z10 : PySem.W.nsIn K mainGlobals "int" = some none)
    : ∃ fd : FuncData, (∀ (s : Shared) (v : Value), BindsTo s fd ⟨[v], []⟩ [("_law_script", v)]) ∧ ∀ base : Heap, K.In base → base.Ns mainGlobals mg → FnOk l.prog w K mg base CX0 4 fa fd ["_law_script"] (spLaw K) := by
  have e := hfa.symm.trans (PySem.W.mg_of X G a9)
  cases e
  have F1 := fun_mk (st := s_shared) l1 c1 k1
  have D_shared : DefAt K mg "shared" s_shared ["amounts", "coins"] _ _ := ⟨F1, F1.binds (ps := ["amounts", "coins"]) fun _ _ _ _ _ _ us hl => match us, hl with | [_, _], _ => rfl, PySem.W.mg_of X G a1⟩
  have F2 := fun_mk (st := s_first_coins) l2 c2 k2
  have D_first_coins : DefAt K mg "_first_coins" s_first_coins ["amounts", "coins"] _ _ := ⟨F2, F2.binds (ps := ["amounts", "coins"]) fun _ _ _ _ _ _ us hl => match us, hl with | [_, _], _ => rfl, PySem.W.mg_of X G a2⟩
  have F3 := fun_mk (st := s_least_paid) l3 c3 k3
  have D_least_paid : DefAt K mg "_least_paid" s_least_paid ["amounts", "paid"] _ _ := ⟨F3, F3.binds (ps := ["amounts", "paid"]) fun _ _ _ _ _ _ us hl => match us, hl with | [_, _], _ => rfl, PySem.W.mg_of X G a3⟩
  have F4 := fun_mk (st := s_next) l4 c4 k4
  have D_next : DefAt K mg "_law_next" s_next ["_law_h", "_law_many"] _ _ := ⟨F4, F4.binds (ps := ["_law_h", "_law_many"]) fun _ _ _ _ _ _ us hl => match us, hl with | [_, _], _ => rfl, PySem.W.mg_of X G a4⟩
  have F5 := fun_mk (st := s_first) l5 c5 k5
  have D_first : DefAt K mg "_law_first" s_first ["_law_amounts", "_law_paid"] _ _ := ⟨F5, F5.binds (ps := ["_law_amounts", "_law_paid"]) fun _ _ _ _ _ _ us hl => match us, hl with | [_, _], _ => rfl, PySem.W.mg_of X G a5⟩
  have F6 := fun_mk (st := s_lshared) l6 c6 k6
  have D_lshared : DefAt K mg "_law_shared" s_lshared ["_law_amounts", "_law_coins"] _ _ := ⟨F6, F6.binds (ps := ["_law_amounts", "_law_coins"]) fun _ _ _ _ _ _ us hl => match us, hl with | [_, _], _ => rfl, PySem.W.mg_of X G a6⟩
  have F7 := fun_mk (st := s_are) l7 c7 k7
  have D_are : DefAt K mg "_law_are" s_are ["_law_found", "_law_due"] _ _ := ⟨F7, F7.binds (ps := ["_law_found", "_law_due"]) fun _ _ _ _ _ _ us hl => match us, hl with | [_, _], _ => rfl, PySem.W.mg_of X G a7⟩
  have F8 := fun_mk (st := s_isnext) l8 c8 k8
  have D_isnext : DefAt K mg "_law_is_next" s_isnext ["_law_amounts", "_law_found", "_law_more"] _ _ := ⟨F8, F8.binds (ps := ["_law_amounts", "_law_found", "_law_more"]) fun _ _ _ _ _ _ us hl => match us, hl with | [_, _, _], _ => rfl, PySem.W.mg_of X G a8⟩
  have F9 := fun_mk (st := s_law) l9 c9 k9
  have D_law : DefAt K mg "law" s_law ["_law_script"] _ _ := ⟨F9, F9.binds (ps := ["_law_script"]) fun _ _ _ _ _ _ us hl => match us, hl with | [_], _ => rfl, PySem.W.mg_of X G a9⟩
  have m_range : mg "range" = none := PySem.W.mg_none_of X G z1
  have m_len : mg "len" = none := PySem.W.mg_none_of X G z2
  have m_max : mg "max" = none := PySem.W.mg_none_of X G z3
  have m_min : mg "min" = none := PySem.W.mg_none_of X G z4
  have m_sum : mg "sum" = none := PySem.W.mg_none_of X G z5
  have m_list : mg "list" = none := PySem.W.mg_none_of X G z6
  have m_enumerate : mg "enumerate" = none := PySem.W.mg_none_of X G z7
  have m_isinstance : mg "isinstance" = none := PySem.W.mg_none_of X G z8
  have m_bool : mg "bool" = none := PySem.W.mg_none_of X G z9
  have m_int : mg "int" = none := PySem.W.mg_none_of X G z10
  exact ⟨PySem.W.fnOf "law" "law" (defArgs s_law) (defBody s_law) (defScope s_law) .none kV9 dc9 pm9 an9 cd9 ct9, fun s v => .of_eq rfl, fun base _ _ => ok_law (D := D_law) (m_range := m_range) (m_len := m_len) (m_max := m_max) (m_min := m_min) (m_sum := m_sum) (m_list := m_list) (m_enumerate := m_enumerate) (m_isinstance := m_isinstance) (m_bool := m_bool) (m_int := m_int) (D_shared := D_shared) (D_first_coins := D_first_coins) (D_least_paid := D_least_paid) (D_next := D_next) (D_first := D_first) (D_lshared := D_lshared) (D_are := D_are) (D_isnext := D_isnext)⟩
end Rf
open PySem PySem.W PyProof.Rows
set_option maxRecDepth 100000 in
set_option maxHeartbeats 0 in
theorem PySem.Challenge.cw_rankfall_k01_coins_shared_holds : PySem.Challenge.rw_rankfall_k01_coins_shared.Holds := by
  w_on; o_law; k_head; (case hw => w_witness2)
  k_fill
  refine L2.walk_of (l := PySem.Challenge.rw_rankfall_k01_coins_shared) (n := 63) (k := 4) (x := "_law_script") (CX := fun _ => L2.CX0) (sp := fun w => Rf.spLaw _) rfl (by decide) rfl ⟨rfl, by decide, by decide⟩ (fun w h Y => PySem.W.kIn_of Y) ?F (fun _ _ a ns hl _ hS => ⟨a, ns, rfl, hS, hl, fun _ => rfl⟩) (fun _ _ _ _ _ h => h)
  case F =>
    intro w mg fa h KX G hmg
    refine' Rf.all_mk KX G hmg ?a1 ?l1 ?c1 ?k1 ?a2 ?l2 ?c2 ?k2 ?a3 ?l3 ?c3 ?k3 ?a4 ?l4 ?c4 ?k4 ?a5 ?l5 ?c5 ?k5 ?a6 ?l6 ?c6 ?k6 ?a7 ?l7 ?c7 ?k7 ?a8 ?l8 ?c8 ?k8 ?a9 ?l9 ?c9 ?k9 ?z1 ?z2 ?z3 ?z4 ?z5 ?z6 ?z7 ?z8 ?z9 ?z10
    (case a1 => k_is)
    (case l1 => k_is)
    (case c1 => k_is)
    (case k1 => k_is)
    (case a2 => k_is)
    (case l2 => k_is)
    (case c2 => k_is)
    (case k2 => k_is)
    (case a3 => k_is)
    (case l3 => k_is)
    (case c3 => k_is)
    (case k3 => k_is)
    (case a4 => k_is)
    (case l4 => k_is)
    (case c4 => k_is)
    (case k4 => k_is)
    (case a5 => k_is)
    (case l5 => k_is)
    (case c5 => k_is)
    (case k5 => k_is)
    (case a6 => k_is)
    (case l6 => k_is)
    (case c6 => k_is)
    (case k6 => k_is)
    (case a7 => k_is)
    (case l7 => k_is)
    (case c7 => k_is)
    (case k7 => k_is)
    (case a8 => k_is)
    (case l8 => k_is)
    (case c8 => k_is)
    (case k8 => k_is)
    (case a9 => k_is)
    (case l9 => k_is)
    (case c9 => k_is)
    (case k9 => k_is)
    (case z1 => k_is)
    (case z2 => k_is)
    (case z3 => k_is)
    (case z4 => k_is)
    (case z5 => k_is)
    (case z6 => k_is)
    (case z7 => k_is)
    (case z8 => k_is)
    (case z9 => k_is)
    (case z10 => k_is)


