import PyProof.Rows.All
import Wide.All
import OpenK.AllK
import Wide.FinOn
import Open.SpecLaws
import KE.OsGo
import HandS.CallLocal
import HandS.Codes
import HandS.Comp
import HandS.Conv
import HandS.Dict
import HandS.Evl
import HandS.ForSpec
import HandS.Iter
import HandS.Keys
import HandS.Nested
import HandS.NoneIn
import HandS.Rev
import HandS.SortKw
import HandS.WordsDict
import PyFlatLaws
import PySem.Challenge.RW_firesaved_s01_answers
set_option Elab.async false
set_option linter.all false
namespace FS

/-! # Mathematics of the specification's tree: how far two places are, what lies between -/
/-- to which earlier one a place is joined -/
def pa (up : List Nat) (p : Nat) : Nat := min (up.getD (p - 1) 0) (p - 1)
theorem pa_lt (up : List Nat) {p : Nat} (h : 0 < p) : pa up p < p := by
  unfold pa
  omega
/-- each one is joined to an earlier one -/
def Wf (up : List Nat) : Prop := ∀ i, i < up.length → up.getD i 0 ≤ i
theorem pa_eq {up : List Nat} (w : Wf up) {p : Nat} (h : 0 < p) (hn : p < up.length + 1) : up.getD (p - 1) 0 = pa up p := by
  have := w (p - 1) (by omega)
  unfold pa
  omega
/-- how far two are -/
def dd (up : List Nat) (p q : Nat) : Nat :=
  if p = q then 0 else if p < q then dd up p (pa up q) + 1 else dd up (pa up p) q + 1
termination_by p + q
decreasing_by
  · have := pa_lt up (p := q) (by omega)
    omega
  · have := pa_lt up (p := p) (by omega)
    omega
variable {up : List Nat}
theorem dd_self (p : Nat) : dd up p p = 0 := by
  rw [dd, if_pos rfl]
theorem dd_lt {p q : Nat} (h : p < q) : dd up p q = dd up p (pa up q) + 1 := by
  rw [dd, if_neg (by omega), if_pos h]
theorem dd_gt {p q : Nat} (h : q < p) : dd up p q = dd up (pa up p) q + 1 := by
  rw [dd, if_neg (by omega), if_neg (by omega)]
theorem dd_symm' : ∀ (k p q : Nat), p + q ≤ k → dd up p q = dd up q p
  | 0, p, q, h => by
    have : p = 0 := by omega
    have : q = 0 := by omega
    subst_vars
    rfl
  | k + 1, p, q, h => by
    by_cases e : p = q
    · subst e
      rfl
    by_cases l : p < q
    · rw [dd_lt l, dd_gt l]
      have := pa_lt up (p := q) (by omega)
      rw [dd_symm' k p (pa up q) (by omega)]
    · rw [dd_gt (by omega : q < p), dd_lt (by omega : q < p)]
      have := pa_lt up (p := p) (by omega)
      rw [dd_symm' k (pa up p) q (by omega)]
theorem dd_symm (p q : Nat) : dd up p q = dd up q p := dd_symm' _ p q (Nat.le_refl _)
theorem dd_zero {p q : Nat} (h : dd up p q = 0) : p = q := by
  by_cases e : p = q
  · exact e
  by_cases l : p < q
  · rw [dd_lt l] at h
    omega
  · rw [dd_gt (by omega)] at h
    omega
theorem dd_le' : ∀ (k p q : Nat), p + q ≤ k → dd up p q ≤ max p q
  | 0, p, q, h => by
    have : p = 0 := by omega
    have : q = 0 := by omega
    subst_vars
    rw [dd_self]
    omega
  | k + 1, p, q, h => by
    by_cases e : p = q
    · subst e
      rw [dd_self]
      omega
    by_cases l : p < q
    · have := pa_lt up (p := q) (by omega)
      have := dd_le' k p (pa up q) (by omega)
      rw [dd_lt l]
      by_cases e2 : p = pa up q
      · rw [← e2, dd_self]
        omega
      · omega
    · have := pa_lt up (p := p) (by omega)
      have := dd_le' k (pa up p) q (by omega)
      rw [dd_gt (by omega)]
      by_cases e2 : pa up p = q
      · rw [e2, dd_self]
        omega
      · omega
theorem dd_le (p q : Nat) : dd up p q ≤ max p q := dd_le' _ p q (Nat.le_refl _)
/-- joined -/
def Adj (up : List Nat) (p q : Nat) : Prop := (p < q ∧ pa up q = p) ∨ (q < p ∧ pa up p = q)
theorem Adj.symm {p q : Nat} (h : Adj up p q) : Adj up q p := h.elim Or.inr Or.inl
/-- from one to the next it's one more or one less -/
theorem dd_pa : ∀ (q p : Nat), 0 < p → dd up (pa up p) q + 1 = dd up p q ∨ dd up (pa up p) q = dd up p q + 1 := by
  intro q
  induction q using Nat.strongRecOn with
  | ind q ih =>
    intro p hp
    have hl := pa_lt up hp
    by_cases l : q < p
    · exact Or.inl (dd_gt l).symm
    by_cases e : p = q
    · subst e
      right
      rw [dd_lt hl, dd_self, dd_self]
    · have lq : p < q := by omega
      rw [dd_lt lq, dd_lt (show pa up p < q by omega)]
      have := ih (pa up q) (pa_lt up (by omega)) p hp
      omega
theorem dd_adj {p r : Nat} (h : Adj up p r) (q : Nat) : dd up r q + 1 = dd up p q ∨ dd up r q = dd up p q + 1 := by
  rcases h with ⟨l, e⟩ | ⟨l, e⟩
  · have := dd_pa (up := up) q r (by omega)
    rw [e] at this
    omega
  · have := dd_pa (up := up) q p (by omega)
    rw [e] at this
    omega
/-- a child that is nearer is no later one -/
theorem child_le {p r q : Nat} (h : Adj up p r) (hp : p < r) (hd : dd up r q + 1 = dd up p q) : r ≤ q := by
  rcases h with ⟨_, e⟩ | ⟨l, _⟩
  · refine Nat.le_of_not_lt fun l => ?_
    have := dd_gt (up := up) l
    rw [e] at this
    omega
  · omega
theorem toward_ex : ∀ (q p : Nat), p ≠ q → ∃ r, Adj up p r ∧ dd up r q + 1 = dd up p q ∧ r ≤ max p q := by
  intro q
  induction q using Nat.strongRecOn with
  | ind q ih =>
    intro p hp
    by_cases l : q < p
    · exact ⟨pa up p, Or.inr ⟨pa_lt up (by omega), rfl⟩, (dd_gt l).symm, by have := pa_lt up (p := p) (by omega); omega⟩
    have lq : p < q := by omega
    have hl := pa_lt up (p := q) (by omega)
    by_cases e : pa up q = p
    · refine ⟨q, Or.inl ⟨lq, e⟩, ?_, by omega⟩
      rw [dd_self, dd_lt lq, e, dd_self]
    · obtain ⟨r, a, d, m⟩ := ih (pa up q) hl p (fun x => e x.symm)
      refine ⟨r, a, ?_, by omega⟩
      rw [dd_lt lq, dd_lt (show r < q by omega)]
      omega
theorem toward_le {p q r : Nat} (a : Adj up p r) (d : dd up r q + 1 = dd up p q) : r ≤ max p q := by
  by_cases l : p < r
  · have := child_le a l d
    omega
  · omega
theorem toward_one : ∀ (q p r s : Nat), p ≠ q → Adj up p r → dd up r q + 1 = dd up p q → Adj up p s → dd up s q + 1 = dd up p q → r = s := by
  intro q
  induction q using Nat.strongRecOn with
  | ind q ih =>
    intro p r s hp ar dr as ds
    by_cases l : q < p
    · have f : ∀ t, Adj up p t → dd up t q + 1 = dd up p q → t = pa up p := fun t a d => by
        rcases a with ⟨l2, e⟩ | ⟨_, e⟩
        · have := child_le (Or.inl ⟨l2, e⟩) l2 d
          omega
        · exact e.symm
      rw [f r ar dr, f s as ds]
    have lq : p < q := by omega
    have hl := pa_lt up (p := q) (by omega)
    by_cases e : pa up q = p
    · have dq : dd up p q = 1 := by rw [dd_lt lq, e, dd_self]
      rw [dd_zero (show dd up r q = 0 by omega), dd_zero (show dd up s q = 0 by omega)]
    · have f : ∀ t, Adj up p t → dd up t q + 1 = dd up p q → dd up t (pa up q) + 1 = dd up p (pa up q) := fun t a d => by
        have m := toward_le a d
        have nq : t ≠ q := fun x => by
          subst x
          rcases a with ⟨_, e2⟩ | ⟨l2, _⟩
          · exact e e2
          · omega
        rw [dd_lt lq, dd_lt (show t < q by omega)] at d
        omega
      exact ih (pa up q) hl p r s (fun x => e x.symm) ar (f r ar dr) as (f s as ds)
theorem dd_tri : ∀ (k p q r : Nat), dd up r q ≤ k → dd up p q ≤ dd up p r + dd up r q
  | 0, p, q, r, h => by
    have := dd_zero (show dd up r q = 0 by omega)
    subst this
    omega
  | k + 1, p, q, r, h => by
    by_cases e : r = q
    · subst e
      omega
    obtain ⟨t, a, d, _⟩ := toward_ex (up := up) q r e
    have := dd_tri k p q t (by omega)
    have := dd_adj a p
    rw [dd_symm t p, dd_symm r p] at this
    omega
theorem dd_triangle (p q r : Nat) : dd up p q ≤ dd up p r + dd up r q := dd_tri _ p q r (Nat.le_refl _)
/-! ### The specification's own words -/
open Su115 (Abs)
theorem near_iff {a : Abs} (w : Wf a.up) {p q : Nat} (hp : p < a.n) : q ∈ a.near p ↔ q < a.n ∧ Adj a.up p q := by
  have hn : a.n = a.up.length + 1 := rfl
  unfold Su115.Abs.near Su115.Abs.ps
  rw [List.mem_filter, List.mem_range]
  simp only [Bool.or_eq_true, Bool.and_eq_true, decide_eq_true_eq, beq_iff_eq]
  constructor
  · rintro ⟨h1, h⟩
    refine ⟨h1, ?_⟩
    rcases h with ⟨l, e⟩ | ⟨l, e⟩
    · rw [pa_eq w (by omega) (by omega)] at e
      exact Or.inl ⟨l, e⟩
    · rw [pa_eq w (by omega) (by omega)] at e
      exact Or.inr ⟨l, e⟩
  · rintro ⟨h1, h⟩
    refine ⟨h1, ?_⟩
    rcases h with ⟨l, e⟩ | ⟨l, e⟩
    · rw [← pa_eq w (by omega) (by omega)] at e
      exact Or.inl ⟨l, e⟩
    · rw [← pa_eq w (by omega) (by omega)] at e
      exact Or.inr ⟨l, e⟩
theorem findSome_none {α β : Type} {l : List α} {f : α → Option β} (h : ∀ x ∈ l, f x = none) : l.findSome? f = none := by
  rw [List.findSome?_eq_none_iff]
  exact h
theorem findSome_one {α β : Type} {f : α → Option β} {t : α} {v : Option β} (ht : f t = v) : ∀ {l : List α}, t ∈ l → (∀ x ∈ l, x ≠ t → f x = none) → l.findSome? f = v
  | [], m, _ => by cases m
  | x :: l, m, h => by
    rw [List.findSome?_cons]
    cases hx : f x with
    | some y =>
      have e : x = t := Classical.byContradiction fun ne => by
        rw [h x (List.mem_cons_self ..) ne] at hx
        cases hx
      subst e
      rw [hx] at ht
      exact ht
    | none =>
      show l.findSome? f = v
      by_cases e : t ∈ l
      · exact findSome_one ht e fun y my => h y (List.mem_cons_of_mem _ my)
      · have : x = t := by
          cases m with
          | head => rfl
          | tail _ m => exact absurd m e
        subst this
        rw [hx] at ht
        subst ht
        exact findSome_none fun y my => h y (List.mem_cons_of_mem _ my) fun z => e (z ▸ my)
theorem dist_eq {a : Abs} (w : Wf a.up) {q : Nat} (hq : q < a.n) : ∀ (f p s : Nat), p < a.n →
    ((¬ Adj a.up p s ∨ dd a.up s q = dd a.up p q + 1) → a.dist f p s q = if dd a.up p q < f then some (dd a.up p q) else none) ∧
    ((Adj a.up p s ∧ dd a.up s q + 1 = dd a.up p q) → a.dist f p s q = none)
  | 0, p, s, hp => ⟨fun _ => by rw [if_neg (by omega)]; rfl, fun _ => rfl⟩
  | f + 1, p, s, hp => by
    by_cases e : p = q
    · subst e
      refine ⟨fun _ => ?_, fun h => ?_⟩
      · rw [dd_self, if_pos (by omega)]
        unfold Su115.Abs.dist
        rw [if_pos rfl]
      · rw [dd_self] at h
        omega
    have un : a.dist (f + 1) p s q = (((a.near p).filter fun r => r != s).findSome? fun r => a.dist f r p q).map fun d => d + 1 := by
      show (if p = q then some 0 else _) = _
      rw [if_neg e]
    obtain ⟨t, at_, dt, mt⟩ := toward_ex (up := a.up) q p e
    have ht : t < a.n := by omega
    have off : ∀ r, r ∈ (a.near p).filter (fun r => r != s) → r ≠ t → a.dist f r p q = none := fun r m ne => by
      rw [List.mem_filter] at m
      obtain ⟨hr, ar⟩ := (near_iff w hp).mp m.1
      have : dd a.up r q = dd a.up p q + 1 := by
        rcases dd_adj ar q with z | z
        · exact absurd (toward_one q p r t e ar z at_ dt) ne
        · exact z
      exact (dist_eq w hq f r p hr).2 ⟨ar.symm, this.symm⟩
    rw [un]
    refine ⟨fun h => ?_, fun h => ?_⟩
    · have hs : t ≠ s := fun x => by
        subst x
        rcases h with h | h
        · exact h at_
        · omega
      have mt' : t ∈ (a.near p).filter (fun r => r != s) := by
        rw [List.mem_filter]
        exact ⟨(near_iff w hp).mpr ⟨ht, at_⟩, by simp [hs]⟩
      have on := (dist_eq w hq f t p ht).1 (Or.inr dt.symm)
      rw [findSome_one (f := fun r => a.dist f r p q) on mt' off]
      by_cases c : dd a.up t q < f
      · rw [if_pos c, if_pos (by omega), ← dt]
        rfl
      · rw [if_neg c, if_neg (by omega)]
        rfl
    · have hs : s = t := toward_one q p s t e h.1 h.2 at_ dt
      rw [findSome_none]
      · rfl
      · intro r m
        refine off r m fun x => ?_
        rw [List.mem_filter] at m
        have := m.2
        rw [x, hs] at this
        simp at this
theorem far_eq {a : Abs} (w : Wf a.up) {p q : Nat} (hp : p < a.n) (hq : q < a.n) : a.far p q = dd a.up p q := by
  have h : ¬ Adj a.up p a.n ∨ dd a.up a.n q = dd a.up p q + 1 := by
    by_cases c : Adj a.up p a.n
    · right
      rcases c with ⟨_, e⟩ | ⟨l, _⟩
      · rw [dd_gt hq, e]
      · omega
    · exact Or.inl c
  have l := dd_le (up := a.up) p q
  unfold Su115.Abs.far
  rw [(dist_eq w hq a.n p a.n hp).1 h, if_pos (by omega)]
  rfl
/-- r lies on the way from f to p -/
def On (up : List Nat) (f p r : Nat) : Prop := dd up f r + dd up r p = dd up f p
instance (up : List Nat) (f p r : Nat) : Decidable (On up f p r) := inferInstanceAs (Decidable (_ = _))
theorem on_end (f p : Nat) : On up f p p := by
  unfold On
  rw [dd_self]
  omega
theorem on_start (f p : Nat) : On up f p f := by
  unfold On
  rw [dd_self]
  omega
/-- what's on the way to p is p, or on the way to the one ahead of p -/
theorem on_step {f p t r : Nat} (a : Adj up p t) (d : dd up t f + 1 = dd up p f) : On up f p r ↔ r = p ∨ On up f t r := by
  have ft := dd_symm (up := up) t f
  have fp := dd_symm (up := up) p f
  unfold On
  constructor
  · intro h
    by_cases e : r = p
    · exact Or.inl e
    right
    obtain ⟨t', a', d', _⟩ := toward_ex (up := up) r p fun x => e x.symm
    have t1 := dd_triangle (up := up) f t' r
    have t2 := dd_adj a' f
    have s1 := dd_symm (up := up) r t'
    have s2 := dd_symm (up := up) r p
    have s3 := dd_symm (up := up) t' f
    have e2 : t' = t := toward_one f p t' t (fun x => by subst x; rw [dd_self] at d; omega) a' (by omega) a d
    subst e2
    omega
  · rintro (h | h)
    · subst h
      rw [dd_self]
      omega
    · have t1 := dd_triangle (up := up) f p r
      have t2 := dd_adj a r
      have s1 := dd_symm (up := up) r t
      have s2 := dd_symm (up := up) r p
      omega
theorem on_self_not {f p t : Nat} (a : Adj up p t) (d : dd up t f + 1 = dd up p f) : ¬ On up f t p := by
  unfold On
  have t2 := dd_adj a t
  have ft := dd_symm (up := up) t f
  have fp := dd_symm (up := up) p f
  omega
theorem on_f {f r : Nat} : On up f f r ↔ r = f := by
  unfold On
  have s := dd_symm (up := up) f r
  rw [dd_self]
  constructor
  · intro h
    exact (dd_zero (up := up) (by omega)).symm
  · intro h
    subst h
    rw [dd_self]
theorem on_trans {f p q r : Nat} (h1 : On up f p q) (h2 : On up f q r) : On up f p r := by
  unfold On at *
  have t1 := dd_triangle (up := up) r p q
  have t2 := dd_triangle (up := up) f p r
  omega
theorem on_le {f p r : Nat} (h : On up f p r) : dd up f r ≤ dd up f p := by
  unfold On at h
  omega
/-- on the way and as deep: the same -/
theorem on_eq {f p r : Nat} (h : On up f p r) (e : dd up f r = dd up f p) : r = p := by
  unfold On at h
  exact dd_zero (up := up) (by omega)
/-! ### the ways -/
theorem path_mem {a : Abs} (w : Wf a.up) {f p r : Nat} (hf : f < a.n) (hp : p < a.n) : r ∈ a.path f p ↔ r < a.n ∧ On a.up f p r := by
  unfold Su115.Abs.path Su115.Abs.ps
  rw [List.mem_filter, List.mem_range]
  constructor
  · rintro ⟨h1, h⟩
    rw [far_eq w hf h1, far_eq w h1 hp, far_eq w hf hp] at h
    exact ⟨h1, by simpa [On] using h⟩
  · rintro ⟨h1, h⟩
    refine ⟨h1, ?_⟩
    rw [far_eq w hf h1, far_eq w h1 hp, far_eq w hf hp]
    simpa [On] using h
theorem range_nodup (n : Nat) : (List.range n).Nodup := List.nodup_range
/-- one more in a filter -/
theorem filter_more {l : List Nat} (nd : l.Nodup) {x : Nat} (hx : x ∈ l) {P Q : Nat → Bool} (h : ∀ y ∈ l, Q y = (P y || y == x)) (hn : P x = false) : (l.filter Q).length = (l.filter P).length + 1 := by
  induction l with
  | nil => cases hx
  | cons y l ih =>
    rw [List.nodup_cons] at nd
    have hy := h y (List.mem_cons_self ..)
    by_cases e : y = x
    · subst e
      have q : Q y = true := by rw [hy]; simp
      rw [List.filter_cons, List.filter_cons, if_pos q, hn, if_neg (by decide), List.length_cons]
      have : l.filter Q = l.filter P := List.filter_congr fun z hz => by
        rw [h z (List.mem_cons_of_mem _ hz)]
        have : z ≠ y := fun s => nd.1 (s ▸ hz)
        simp [this]
      rw [this]
    · have m : x ∈ l := by
        cases hx with
        | head => exact absurd rfl e
        | tail _ m => exact m
      have := ih nd.2 m fun z hz => h z (List.mem_cons_of_mem _ hz)
      have q : Q y = P y := by rw [hy]; simp [e]
      rw [List.filter_cons, List.filter_cons, q]
      split
      · rw [List.length_cons, List.length_cons, this]
      · exact this
theorem path_filter {a : Abs} (w : Wf a.up) {f p : Nat} (hf : f < a.n) (hp : p < a.n) : a.path f p = (List.range a.n).filter fun r => decide (On a.up f p r) := by
  unfold Su115.Abs.path Su115.Abs.ps
  refine List.filter_congr fun r hr => ?_
  rw [List.mem_range] at hr
  rw [far_eq w hf hr, far_eq w hr hp, far_eq w hf hp]
  rw [Bool.eq_iff_iff, beq_iff_eq, decide_eq_true_eq]
  exact Iff.rfl
theorem path_len {a : Abs} (w : Wf a.up) {f : Nat} (hf : f < a.n) : ∀ (k p : Nat), p < a.n → dd a.up p f ≤ k → (a.path f p).length = dd a.up f p + 1
  | 0, p, hp, h => by
    have e := dd_zero (up := a.up) (show dd a.up p f = 0 by omega)
    subst e
    rw [path_filter w hf hp, dd_self]
    have z : ((List.range a.n).filter fun r => decide (On a.up p p r)).length = ((List.range a.n).filter fun _ => false).length + 1 :=
      filter_more (range_nodup _) (List.mem_range.mpr hp) (fun y _ => by rw [Bool.eq_iff_iff]; simp [on_f]) rfl
    rw [z]
    simp
  | k + 1, p, hp, h => by
    by_cases e : p = f
    · exact path_len w hf 0 p hp (by subst e; rw [dd_self]; omega)
    obtain ⟨t, at_, dt, mt⟩ := toward_ex (up := a.up) f p e
    have ht : t < a.n := by omega
    have ih := path_len w hf k t ht (by omega)
    rw [path_filter w hf ht] at ih
    rw [path_filter w hf hp]
    have z := filter_more (l := List.range a.n) (x := p) (P := fun r => decide (On a.up f t r)) (Q := fun r => decide (On a.up f p r)) (range_nodup _) (List.mem_range.mpr hp)
      (fun y _ => by rw [Bool.eq_iff_iff]; simp [on_step at_ dt, or_comm]) (by simpa using on_self_not at_ dt)
    rw [z, ih]
    have ft := dd_symm (up := a.up) t f
    have fp := dd_symm (up := a.up) p f
    omega
theorem paths_len (a : Su121.Abs) : a.paths.length = a.n := by
  show (List.map _ (List.range _)).length = _
  rw [List.length_map, List.length_range]
  rfl
theorem paths_get {a : Su121.Abs} {p : Nat} (hp : p < a.n) : a.paths.getD p [] = a.tree.path a.fire p := by
  have hp' : p < a.tree.n := hp
  unfold Su121.Abs.paths Su121.Abs.ps Su115.Abs.ps
  rw [List.getD_eq_getElem?_getD, List.getElem?_map, List.getElem?_range hp']
  rfl
theorem paths_out {a : Su121.Abs} {p : Nat} (hp : ¬ p < a.n) : a.paths.getD p [] = [] := by
  rw [List.getD_eq_getElem?_getD, List.getElem?_eq_none (by rw [paths_len]; omega)]
  rfl
end FS

set_option maxRecDepth 100000
set_option maxHeartbeats 4000000
/-! # What is handed in, as calls of the specification; what is due, call by call -/
namespace FS
open Su121 (Abs)
def I (l : List Nat) : List Int := l.map fun (n : Nat) => (n : Int)
theorem I_len (l : List Nat) : (I l).length = l.length := List.length_map ..
theorem I_append (l m : List Nat) : I (l ++ m) = I l ++ I m := List.map_append ..
theorem I_toNat {l : List Int} (h : ∀ z ∈ l, 0 ≤ z) : I (l.map Int.toNat) = l := by
  unfold I
  rw [List.map_map]
  refine (List.map_congr_left fun z hz => ?_).trans (List.map_id l)
  exact Int.toNat_of_nonneg (h z hz)
/-- a call as it is handed in -/
def enc : Su121.Call → List Nat
  | .begin_ => [0]
  | .join p => [1, p]
  | .drop => [2]
  | .fire p => [3, p]
  | .each k => [4, k]
  | .save p => [5, p]
  | .turn => [6]
  | .again => [7]
  | .burns => [8]
  | .saved => [9]
  | .safe => [10]
  | .best => [11]
  | .greedy => [12]
  | .run l => 13 :: l.length :: l
  | .size p => [14, p]
  | .deep p => [15, p]
  | .level d => [16, d]
  | .kept l => 17 :: l.length :: l
  | .worst => [18]
  | .from_ => [19]
  | .mores => [20]
  | .state => [21]
/-- rows and sets are short -/
def fits : Su121.Call → Prop
  | .run l => l.length ≤ 14
  | .kept l => l.length ≤ 14
  | _ => True
def ansI (a : Su121.Ans) : List Int := a.value :: I a.out
def plays : Option Abs → List Su121.Call → List (List Int)
  | _, [] => []
  | s, x :: r => ansI (Su121.step s x).2 :: plays (Su121.step s x).1 r
theorem one_call {c : List (List Int)} (ok : PyFlat.okCall PySu121.shape c) (hb : PyInside.call PySu121.bound c = true) :
    ∃ x, PyFlat.put1 c = I (enc x) ∧ fits x ∧ Su121Neutral.callOf ((PySu121.whole c).headD []) = some x := by
  obtain ⟨p, a, xs, rfl, hs⟩ := ok
  have nil {n : Nat} {l : List Int} (h : 0 = l.length) : l = [] := List.length_eq_zero_iff.mp h.symm
  have plain (h : some (0, 0) = some (a.length, xs.length)) : a = [] ∧ xs = [] := by
    obtain ⟨h1, h2⟩ := Prod.mk.inj (Option.some.inj h)
    exact ⟨List.length_eq_zero_iff.mp h1.symm, List.length_eq_zero_iff.mp h2.symm⟩
  have num (h : some (1, 0) = some (a.length, xs.length)) : ∃ z, a = [z] ∧ xs = [] := by
    obtain ⟨h1, h2⟩ := Prod.mk.inj (Option.some.inj h)
    obtain ⟨z, hz⟩ := List.length_eq_one_iff.mp h1.symm
    exact ⟨z, hz, List.length_eq_zero_iff.mp h2.symm⟩
  have row (h : some (0, 1) = some (a.length, xs.length)) : ∃ r, a = [] ∧ xs = [r] := by
    obtain ⟨h1, h2⟩ := Prod.mk.inj (Option.some.inj h)
    obtain ⟨r, hr⟩ := List.length_eq_one_iff.mp h2.symm
    exact ⟨r, List.length_eq_zero_iff.mp h1.symm, hr⟩
  have zn {z : Int} (h : (PyInside.within 0 4294967295 z && true) = true) : ∃ n : Nat, z = (n : Int) := by
    rw [Bool.and_true] at h
    unfold PyInside.within at h
    rw [Bool.and_eq_true, decide_eq_true_eq] at h
    exact ⟨z.toNat, (Int.toNat_of_nonneg h.1).symm⟩
  have rn {r : List Int} (h : (decide (0 ≤ r.length) && decide (r.length ≤ 14) && r.all (PyInside.within 0 4294967295) && true) = true) : ∃ l : List Nat, r = I l ∧ l.length ≤ 14 := by
    rw [Bool.and_true, Bool.and_eq_true, Bool.and_eq_true, decide_eq_true_eq, decide_eq_true_eq, List.all_eq_true] at h
    refine ⟨r.map Int.toNat, (I_toNat fun z hz => ?_).symm, by rw [List.length_map]; exact h.1.2⟩
    have := h.2 z hz
    unfold PyInside.within at this
    rw [Bool.and_eq_true, decide_eq_true_eq] at this
    exact this.1
  have toNats (l : List Nat) : (I l).map Int.toNat = l := by
    unfold I
    rw [List.map_map]
    exact (List.map_congr_left fun z _ => rfl).trans (List.map_id l)
  have cases_ : p = 0 ∨ p = 1 ∨ p = 2 ∨ p = 3 ∨ p = 4 ∨ p = 5 ∨ p = 6 ∨ p = 7 ∨ p = 8 ∨ p = 9 ∨ p = 10 ∨ p = 11 ∨ p = 12 ∨ p = 13 ∨ p = 14 ∨ p = 15 ∨ p = 16 ∨ p = 17 ∨ p = 18 ∨ p = 19 ∨ p = 20 ∨ p = 21 := by
    refine Classical.byContradiction fun h => ?_
    simp only [not_or] at h
    obtain ⟨h0, h1, h2, h3, h4, h5, h6, h7, h8, h9, h10, h11, h12, h13, h14, h15, h16, h17, h18, h19, h20, h21⟩ := h
    unfold PySu121.shape at hs
    rw [if_neg h0, if_neg h1, if_neg h2, if_neg h3, if_neg h4, if_neg h5, if_neg h6, if_neg h7, if_neg h8, if_neg h9, if_neg h10, if_neg h11, if_neg h12, if_neg h13, if_neg h14, if_neg h15, if_neg h16, if_neg h17, if_neg h18, if_neg h19, if_neg h20, if_neg h21] at hs
    cases hs
  rcases cases_ with rfl | rfl | rfl | rfl | rfl | rfl | rfl | rfl | rfl | rfl | rfl | rfl | rfl | rfl | rfl | rfl | rfl | rfl | rfl | rfl | rfl | rfl
  · obtain ⟨rfl, rfl⟩ := plain hs
    exact ⟨.begin_, rfl, trivial, rfl⟩
  · obtain ⟨z, rfl, rfl⟩ := num hs
    obtain ⟨n, rfl⟩ := zn (Bool.and_eq_true_iff.mp hb).1
    exact ⟨.join n, rfl, trivial, rfl⟩
  · obtain ⟨rfl, rfl⟩ := plain hs
    exact ⟨.drop, rfl, trivial, rfl⟩
  · obtain ⟨z, rfl, rfl⟩ := num hs
    obtain ⟨n, rfl⟩ := zn (Bool.and_eq_true_iff.mp hb).1
    exact ⟨.fire n, rfl, trivial, rfl⟩
  · obtain ⟨z, rfl, rfl⟩ := num hs
    obtain ⟨n, rfl⟩ := zn (Bool.and_eq_true_iff.mp hb).1
    exact ⟨.each n, rfl, trivial, rfl⟩
  · obtain ⟨z, rfl, rfl⟩ := num hs
    obtain ⟨n, rfl⟩ := zn (Bool.and_eq_true_iff.mp hb).1
    exact ⟨.save n, rfl, trivial, rfl⟩
  · obtain ⟨rfl, rfl⟩ := plain hs
    exact ⟨.turn, rfl, trivial, rfl⟩
  · obtain ⟨rfl, rfl⟩ := plain hs
    exact ⟨.again, rfl, trivial, rfl⟩
  · obtain ⟨rfl, rfl⟩ := plain hs
    exact ⟨.burns, rfl, trivial, rfl⟩
  · obtain ⟨rfl, rfl⟩ := plain hs
    exact ⟨.saved, rfl, trivial, rfl⟩
  · obtain ⟨rfl, rfl⟩ := plain hs
    exact ⟨.safe, rfl, trivial, rfl⟩
  · obtain ⟨rfl, rfl⟩ := plain hs
    exact ⟨.best, rfl, trivial, rfl⟩
  · obtain ⟨rfl, rfl⟩ := plain hs
    exact ⟨.greedy, rfl, trivial, rfl⟩
  · obtain ⟨r, rfl, rfl⟩ := row hs
    obtain ⟨l, rfl, hl⟩ := rn (r := r) hb
    refine ⟨.run l, ?_, hl, ?_⟩
    · show (13 : Int) :: ((((I l).length : Int) :: I l) ++ []) = (13 : Int) :: ((l.length : Int) :: I l)
      rw [List.append_nil, I_len]
    · show some (Su121.Call.run ((I l).map Int.toNat)) = _
      rw [toNats]
  · obtain ⟨z, rfl, rfl⟩ := num hs
    obtain ⟨n, rfl⟩ := zn (Bool.and_eq_true_iff.mp hb).1
    exact ⟨.size n, rfl, trivial, rfl⟩
  · obtain ⟨z, rfl, rfl⟩ := num hs
    obtain ⟨n, rfl⟩ := zn (Bool.and_eq_true_iff.mp hb).1
    exact ⟨.deep n, rfl, trivial, rfl⟩
  · obtain ⟨z, rfl, rfl⟩ := num hs
    obtain ⟨n, rfl⟩ := zn (Bool.and_eq_true_iff.mp hb).1
    exact ⟨.level n, rfl, trivial, rfl⟩
  · obtain ⟨r, rfl, rfl⟩ := row hs
    obtain ⟨l, rfl, hl⟩ := rn (r := r) hb
    refine ⟨.kept l, ?_, hl, ?_⟩
    · show (17 : Int) :: ((((I l).length : Int) :: I l) ++ []) = (17 : Int) :: ((l.length : Int) :: I l)
      rw [List.append_nil, I_len]
    · show some (Su121.Call.kept ((I l).map Int.toNat)) = _
      rw [toNats]
  · obtain ⟨rfl, rfl⟩ := plain hs
    exact ⟨.worst, rfl, trivial, rfl⟩
  · obtain ⟨rfl, rfl⟩ := plain hs
    exact ⟨.from_, rfl, trivial, rfl⟩
  · obtain ⟨rfl, rfl⟩ := plain hs
    exact ⟨.mores, rfl, trivial, rfl⟩
  · obtain ⟨rfl, rfl⟩ := plain hs
    exact ⟨.state, rfl, trivial, rfl⟩
theorem step_as {s : Option Abs} {c : List (List Int)} {x : Su121.Call} (h : Su121Neutral.callOf ((PySu121.whole c).headD []) = some x) : Su121Neutral.step s ((PySu121.whole c).headD []) = ((Su121.step s x).1, ansI (Su121.step s x).2) := by
  unfold Su121Neutral.step
  rw [h]
  rfl
theorem all_calls : ∀ (raw : List (List (List Int))), (∀ c ∈ raw, PyFlat.okCall PySu121.shape c) → (∀ c ∈ raw, PyInside.call PySu121.bound c = true) →
    ∃ xs : List Su121.Call, PyFlat.put raw = I (xs.flatMap enc) ∧ (∀ x ∈ xs, fits x) ∧ xs.length = raw.length ∧ ∀ s, PyFlat.played (fun s c => Su121Neutral.step s (c.headD [])) s (raw.map PySu121.whole) = plays s xs
  | [], _, _ => ⟨[], rfl, fun _ h => (List.not_mem_nil h).elim, rfl, fun _ => rfl⟩
  | c :: raw, h1, h2 => by
    obtain ⟨x, a1, a2, a3⟩ := one_call (h1 c (List.mem_cons_self ..)) (h2 c (List.mem_cons_self ..))
    obtain ⟨xs, b1, b2, b3, b4⟩ := all_calls raw (fun c hc => h1 c (List.mem_cons_of_mem _ hc)) fun c hc => h2 c (List.mem_cons_of_mem _ hc)
    refine ⟨x :: xs, ?_, fun y hy => ?_, congrArg (· + 1) b3, fun s => ?_⟩
    · show PyFlat.put1 c ++ PyFlat.put raw = I (enc x ++ xs.flatMap enc)
      rw [a1, b1, I_append]
    · cases hy with
      | head => exact a2
      | tail _ hy => exact b2 y hy
    · show (Su121Neutral.step s ((PySu121.whole c).headD [])).2 :: PyFlat.played _ (Su121Neutral.step s ((PySu121.whole c).headD [])).1 (raw.map PySu121.whole) = _
      rw [step_as a3, b4]
      rfl
/-- what is asked of a request, and what is due, told by calls of the specification -/
theorem asked_calls {ns : List Int} (h : PySu121.answers_asked ns = true) : ∃ xs : List Su121.Call, ns = I (xs.flatMap enc) ∧ xs ≠ [] ∧ xs.length ≤ 400 ∧ (∀ x ∈ xs, fits x) ∧ PySu121.answers ns = PyFlat.told (plays none xs) ∧ (PySu121.answers ns).length ≤ 10000000 := by
  unfold PySu121.answers_asked at h
  cases e : PyFlat.calls PySu121.shape ns.length ns with
  | none => rw [e] at h; cases h
  | some raw =>
    rw [e] at h
    have h' : (!raw.isEmpty && PyFlat.atMost 400 raw && PyInside.calls PySu121.bound raw && Su121Neutral.asked ((raw.map PySu121.whole).map fun c => c.headD []) && PyFlat.short 10000000 (PySu121.answers ns)) = true := h
    rw [Bool.and_eq_true, Bool.and_eq_true, Bool.and_eq_true, Bool.and_eq_true] at h'
    obtain ⟨⟨⟨⟨q1, q2⟩, q3⟩, _⟩, q5⟩ := h'
    obtain ⟨a1, a2⟩ := PyFlat.put_calls _ _ _ e
    obtain ⟨xs, b1, b2, b3, b4⟩ := all_calls raw a2 (List.all_eq_true.mp q3)
    refine ⟨xs, a1.trans b1, fun z => ?_, ?_, b2, ?_, of_decide_eq_true q5⟩
    · subst z
      have : raw = [] := List.length_eq_zero_iff.mp b3.symm
      subst this
      cases q1
    · rw [b3]
      exact of_decide_eq_true q2
    · unfold PySu121.answers PySu121.calls
      rw [e]
      exact congrArg PyFlat.told (b4 none)
end FS

set_option maxRecDepth 100000
set_option maxHeartbeats 4000000
namespace FS
/-! # Who is next on the way to the fire; how much lies beyond -/
/-- what's next on the way to f -/
noncomputable def tow (up : List Nat) (f q : Nat) : Nat := if h : q = f then q else Classical.choose (toward_ex (up := up) f q h)
section
variable {up : List Nat} {f p q r n : Nat}
theorem tow_spec (h : q ≠ f) : Adj up q (tow up f q) ∧ dd up (tow up f q) f + 1 = dd up q f ∧ tow up f q ≤ max q f := by
  unfold tow
  rw [dif_neg h]
  exact Classical.choose_spec (toward_ex (up := up) f q h)
theorem tow_eq (h : q ≠ f) (a : Adj up q r) (d : dd up r f + 1 = dd up q f) : tow up f q = r :=
  toward_one f q _ _ h (tow_spec h).1 (tow_spec h).2.1 a d
theorem tow_dep (h : q ≠ f) : dd up f (tow up f q) + 1 = dd up f q := by
  have := (tow_spec (up := up) h).2.1
  rw [dd_symm (up := up) f, dd_symm (up := up) f]
  exact this
theorem tow_lt (h : q ≠ f) (hf : f < n) (hq : q < n) : tow up f q < n := by
  have := (tow_spec (up := up) h).2.2
  omega
theorem on_tow (h : q ≠ f) : On up f q r ↔ r = q ∨ On up f (tow up f q) r := on_step (tow_spec h).1 (tow_spec h).2.1
theorem dep_zero (h : dd up f q = 0) : q = f := (dd_zero h).symm
theorem dep_pos (h : q ≠ f) : 0 < dd up f q := Nat.pos_of_ne_zero fun z => h (dep_zero z)
theorem on_lt (hf : f < n) : ∀ (k r : Nat), dd up f r ≤ k → r < n → On up f r q → q < n
  | 0, r, h, hr, o => by
    have e : r = f := dep_zero (up := up) (by omega)
    subst e
    rw [on_f.mp o]
    exact hr
  | k + 1, r, h, hr, o => by
    by_cases e : r = f
    · subst e
      rw [on_f.mp o]
      exact hr
    · rcases (on_tow e).mp o with z | z
      · rw [z]; exact hr
      · have := tow_dep (up := up) e
        exact on_lt hf k _ (by omega) (tow_lt e hf hr) z
/-- of two on the way the nearer one is on the way to the other -/
theorem on_comp : ∀ (k r : Nat), dd up f r ≤ k → On up f r p → On up f r q → dd up f q ≤ dd up f p → On up f p q
  | 0, r, h, op, oq, d => by
    have e : r = f := dep_zero (up := up) (by omega)
    subst e
    rw [on_f.mp op, on_f.mp oq]
    exact on_end _ _
  | k + 1, r, h, op, oq, d => by
    by_cases e1 : r = p
    · rw [← e1]; exact oq
    by_cases e : r = f
    · subst e
      exact absurd (on_f.mp op).symm e1
    have op' : On up f (tow up f r) p := ((on_tow e).mp op).resolve_left fun z => e1 z.symm
    have oq' : On up f (tow up f r) q := by
      rcases (on_tow e).mp oq with z | z
      · exfalso
        subst z
        have := on_le op
        exact e1 (on_eq op (by omega)).symm
      · exact z
    have := tow_dep (up := up) e
    exact on_comp k _ (by omega) op' oq' d
/-- beyond p, not p: beyond one that's next to p -/
theorem on_kid (hf : f < n) : ∀ (k r : Nat), dd up f r ≤ k → r < n → On up f r p → r ≠ p → ∃ c, c < n ∧ c ≠ f ∧ tow up f c = p ∧ On up f r c
  | 0, r, h, hr, o, ne => by
    have e : r = f := dep_zero (up := up) (by omega)
    subst e
    exact absurd (on_f.mp o).symm ne
  | k + 1, r, h, hr, o, ne => by
    by_cases e : r = f
    · subst e
      exact absurd (on_f.mp o).symm ne
    have o' : On up f (tow up f r) p := ((on_tow e).mp o).resolve_left fun z => ne z.symm
    by_cases e2 : tow up f r = p
    · exact ⟨r, hr, e, e2, on_end _ _⟩
    · have := tow_dep (up := up) e
      obtain ⟨c, h1, h2, h3, h4⟩ := on_kid hf k _ (by omega) (tow_lt e hf hr) o' e2
      exact ⟨c, h1, h2, h3, (on_tow e).mpr (.inr h4)⟩
theorem on_of_tow (h : q ≠ f) (o : On up f r q) : On up f r (tow up f q) := on_trans o ((on_tow h).mpr (.inr (on_end _ _)))
end
/-! ### sums and counts -/
theorem filter_or {l : List Nat} {P Q : Nat → Bool} (h : ∀ r ∈ l, ¬ (P r = true ∧ Q r = true)) : (l.filter fun r => P r || Q r).length = (l.filter P).length + (l.filter Q).length := by
  induction l with
  | nil => rfl
  | cons x l ih =>
    have ih := ih fun r hr => h r (List.mem_cons_of_mem _ hr)
    have hx := h x (List.mem_cons_self ..)
    rw [List.filter_cons, List.filter_cons, List.filter_cons]
    cases hp : P x <;> cases hq : Q x
    · simpa [hp, hq] using ih
    · simp only [Bool.false_or, if_true, List.length_cons, Bool.false_eq_true, if_false]; omega
    · simp only [Bool.true_or, if_true, List.length_cons, Bool.false_eq_true, if_false]; omega
    · exact absurd ⟨hp, hq⟩ hx
/-- the sum of a number of each -/
def sm (S : Nat → Nat) (l : List Nat) : Nat := (l.map S).sum
section
variable {S : Nat → Nat} {l m : List Nat}
theorem sm_nil : sm S [] = 0 := rfl
theorem sm_cons {x : Nat} : sm S (x :: l) = S x + sm S l := by simp [sm]
theorem sm_append : sm S (l ++ m) = sm S l + sm S m := by simp [sm]
theorem sm_split (P : Nat → Bool) : ∀ l : List Nat, sm S l = sm S (l.filter P) + sm S (l.filter fun x => !P x)
  | [] => rfl
  | x :: l => by
    have ih := sm_split P l
    rw [List.filter_cons, List.filter_cons, sm_cons]
    cases h : P x
    · simp only [Bool.false_eq_true, if_false, Bool.not_false, if_true, sm_cons]; omega
    · simp only [if_true, Bool.not_true, Bool.false_eq_true, if_false, sm_cons]; omega
theorem sm_perm (h : l.Perm m) : sm S l = sm S m := (h.map S).sum_nat
theorem sm_le_mem {x : Nat} (h : x ∈ l) : S x ≤ sm S l := by
  induction l with
  | nil => cases h
  | cons y l ih =>
    rw [sm_cons]
    cases h with
    | head => omega
    | tail _ h => have := ih h; omega
end
/-- how many lie beyond p -/
def sz (up : List Nat) (n f p : Nat) : Nat := ((List.range n).filter fun r => decide (On up f r p)).length
/-- how many lie beyond one of these -/
def cov (up : List Nat) (n f : Nat) (l : List Nat) : Nat := ((List.range n).filter fun r => l.any fun q => decide (On up f r q)).length
/-- those next to one of these, but further from the fire; rising -/
noncomputable def kids (up : List Nat) (n f : Nat) (l : List Nat) : List Nat := (List.range n).filter fun q => decide (q ≠ f) && l.contains (tow up f q)
section
variable {up : List Nat} {f n : Nat}
theorem mem_kids {l : List Nat} {q : Nat} : q ∈ kids up n f l ↔ q < n ∧ q ≠ f ∧ tow up f q ∈ l := by
  unfold kids
  rw [List.mem_filter, List.mem_range, Bool.and_eq_true, decide_eq_true_eq]
  simp
theorem kids_nd {l : List Nat} : (kids up n f l).Nodup := List.Pairwise.filter _ List.nodup_range
theorem kids_nil : kids up n f [] = [] := by
  unfold kids
  rw [List.filter_eq_nil_iff]
  simp
theorem kids_lt {l : List Nat} : ∀ q ∈ kids up n f l, q < n := fun q h => (mem_kids.mp h).1
theorem sz_pos {p : Nat} (hp : p < n) : 0 < sz up n f p := by
  unfold sz
  rw [List.length_pos_iff_exists_mem]
  exact ⟨p, List.mem_filter.mpr ⟨List.mem_range.mpr hp, decide_eq_true (on_end _ _)⟩⟩
/-- disjoint ones are counted one by one -/
theorem cov_sum {l : List Nat} (nd : l.Nodup) (dj : ∀ p ∈ l, ∀ q ∈ l, p ≠ q → ∀ r, r < n → ¬ (On up f r p ∧ On up f r q)) : cov up n f l = sm (sz up n f) l := by
  induction l with
  | nil => simp [cov, sm]
  | cons p l ih =>
    rw [List.nodup_cons] at nd
    rw [sm_cons, ← ih nd.2 fun a ha b hb => dj a (List.mem_cons_of_mem _ ha) b (List.mem_cons_of_mem _ hb)]
    unfold cov sz
    have e : ((List.range n).filter fun r => (p :: l).any fun q => decide (On up f r q)) = (List.range n).filter fun r => decide (On up f r p) || l.any fun q => decide (On up f r q) := rfl
    rw [e, filter_or]
    intro r hr ⟨h1, h2⟩
    rw [decide_eq_true_eq] at h1
    rw [List.any_eq_true] at h2
    obtain ⟨q, hq, h2⟩ := h2
    rw [decide_eq_true_eq] at h2
    exact dj p (List.mem_cons_self ..) q (List.mem_cons_of_mem _ hq) (fun z => nd.1 (z ▸ hq)) r (List.mem_range.mp hr) ⟨h1, h2⟩
/-- two as deep have nothing in common -/
theorem disj_dep {p q r : Nat} (h : dd up f p = dd up f q) (ne : p ≠ q) : ¬ (On up f r p ∧ On up f r q) := fun ⟨h1, h2⟩ => by
  have o := on_comp _ r (Nat.le_refl _) h1 h2 (by omega)
  exact ne (on_eq o h.symm).symm
theorem kids_one (hf : f < n) {p : Nat} (hp : p < n) : sm (sz up n f) (kids up n f [p]) + 1 = sz up n f p := by
  have dep : ∀ c ∈ kids up n f [p], dd up f c = dd up f p + 1 := fun c hc => by
    obtain ⟨_, h2, h3⟩ := mem_kids.mp hc
    have := tow_dep (up := up) h2
    rw [List.mem_singleton.mp h3] at this
    omega
  rw [← cov_sum kids_nd fun a ha b hb ne r _ => disj_dep (by rw [dep a ha, dep b hb]) ne]
  unfold cov sz
  refine (filter_more List.nodup_range (List.mem_range.mpr hp) (fun r hr => ?_) ?_).symm
  · rw [List.mem_range] at hr
    rw [Bool.eq_iff_iff, decide_eq_true_eq, Bool.or_eq_true, List.any_eq_true, beq_iff_eq]
    constructor
    · intro o
      by_cases e : r = p
      · exact .inr e
      · obtain ⟨c, h1, h2, h3, h4⟩ := on_kid hf _ r (Nat.le_refl _) hr o e
        exact .inl ⟨c, mem_kids.mpr ⟨h1, h2, by rw [h3]; exact List.mem_singleton.mpr rfl⟩, decide_eq_true h4⟩
    · rintro (⟨c, hc, o⟩ | e)
      · rw [decide_eq_true_eq] at o
        obtain ⟨_, h2, h3⟩ := mem_kids.mp hc
        have := on_of_tow h2 o
        rwa [List.mem_singleton.mp h3] at this
      · subst e
        exact on_end _ _
  · rw [List.any_eq_false]
    intro c hc z
    rw [decide_eq_true_eq] at z
    have := on_le z
    rw [dep c hc] at this
    omega
theorem kids_sum (hf : f < n) : ∀ {l : List Nat}, l.Nodup → (∀ p ∈ l, p < n) → sm (sz up n f) (kids up n f l) + l.length = sm (sz up n f) l
  | [], _, _ => by rw [kids_nil]; rfl
  | p :: l, nd, hl => by
    rw [List.nodup_cons] at nd
    have ih := kids_sum hf nd.2 fun q hq => hl q (List.mem_cons_of_mem _ hq)
    have k1 := kids_one (up := up) hf (hl p (List.mem_cons_self ..))
    rw [sm_cons, List.length_cons, sm_split (fun q => decide (tow up f q = p)) (kids up n f (p :: l))]
    have e1 : (kids up n f (p :: l)).filter (fun q => decide (tow up f q = p)) = kids up n f [p] := by
      unfold kids
      rw [List.filter_filter]
      refine List.filter_congr fun q _ => ?_
      rw [Bool.eq_iff_iff]
      simp only [Bool.and_eq_true, decide_eq_true_eq, List.contains_cons, Bool.or_eq_true, beq_iff_eq, List.contains_nil, Bool.false_eq_true, or_false]
      constructor
      · rintro ⟨h1, h2, _⟩; exact ⟨h2, h1⟩
      · rintro ⟨h1, h2⟩; exact ⟨h2, h1, .inl h2⟩
    have e2 : (kids up n f (p :: l)).filter (fun q => !decide (tow up f q = p)) = kids up n f l := by
      unfold kids
      rw [List.filter_filter]
      refine List.filter_congr fun q _ => ?_
      rw [Bool.eq_iff_iff]
      simp only [Bool.and_eq_true, Bool.not_eq_true', decide_eq_false_iff_not, decide_eq_true_eq, List.contains_cons, Bool.or_eq_true, beq_iff_eq, List.contains_iff_mem]
      constructor
      · rintro ⟨h1, h2, h3⟩; exact ⟨h2, h3.resolve_left h1⟩
      · rintro ⟨h1, h2⟩; exact ⟨fun z => nd.1 (z ▸ h2), h1, .inr h2⟩
    rw [e1, e2]
    omega
theorem kids_le (hf : f < n) {l : List Nat} (nd : l.Nodup) (hl : ∀ p ∈ l, p < n) : sm (sz up n f) (kids up n f l) ≤ sm (sz up n f) l := by
  have := kids_sum (up := up) hf nd hl
  omega
end
end FS

set_option maxRecDepth 100000
set_option maxHeartbeats 4000000
namespace FS
open Su121 (Abs some_)
/-! # The best: the specification's and the program's -/
/-! ### the first of the greatest -/
def FirstMax {α : Type} (v : α → Nat) (L : List α) (y : α) : Prop := ∃ pre post, L = pre ++ y :: post ∧ (∀ z ∈ pre, v z < v y) ∧ ∀ z ∈ post, v z ≤ v y
section
variable {α β : Type} {v : α → Nat} {L : List α} {y z : α}
theorem FirstMax.mem (h : FirstMax v L y) : y ∈ L := by
  obtain ⟨pre, post, rfl, _⟩ := h
  exact List.mem_append_right _ (List.mem_cons_self ..)
theorem FirstMax.le (h : FirstMax v L y) (hz : z ∈ L) : v z ≤ v y := by
  obtain ⟨pre, post, rfl, h1, h2⟩ := h
  rcases List.mem_append.mp hz with m | m
  · exact Nat.le_of_lt (h1 z m)
  · cases m with
    | head => exact Nat.le_refl _
    | tail _ m => exact h2 z m
theorem FirstMax.unique (h : FirstMax v L y) (h' : FirstMax v L z) : y = z := by
  have e : v y = v z := Nat.le_antisymm (h'.le h.mem) (h.le h'.mem)
  obtain ⟨pre, post, e1, h1, h2⟩ := h
  obtain ⟨pre', post', e2, h3, h4⟩ := h'
  rw [e1] at e2
  rcases List.append_eq_append_iff.mp e2 with ⟨c, a1, a2⟩ | ⟨c, a1, a2⟩
  · cases c with
    | nil =>
      rw [List.nil_append] at a2
      injection a2
    | cons x c =>
      rw [List.cons_append] at a2
      injection a2 with b1 b2
      have := h3 y (by rw [a1, b1]; exact List.mem_append_right _ (List.mem_cons_self ..))
      omega
  · cases c with
    | nil =>
      rw [List.nil_append] at a2
      injection a2 with b1 b2
      exact b1.symm
    | cons x c =>
      rw [List.cons_append] at a2
      injection a2 with b1 b2
      have := h1 z (by rw [a1, b1]; exact List.mem_append_right _ (List.mem_cons_self ..))
      omega
/-- one more behind: better, or not -/
theorem FirstMax.snoc_lt (h : ∀ x ∈ L, v x < v y) : FirstMax v (L ++ [y]) y := ⟨L, [], rfl, h, fun z hz => absurd hz List.not_mem_nil⟩
theorem FirstMax.snoc_le (h : FirstMax v L y) (hz : v z ≤ v y) : FirstMax v (L ++ [z]) y := by
  obtain ⟨pre, post, rfl, h1, h2⟩ := h
  refine ⟨pre, post ++ [z], by simp, h1, fun x hx => ?_⟩
  rcases List.mem_append.mp hx with m | m
  · exact h2 x m
  · rw [List.mem_singleton.mp m]; exact hz
theorem FirstMax.filter {P : α → Bool} (h : FirstMax v L y) (hP : ∀ x ∈ L, P x = false → ∃ x' ∈ L, v x < v x') : FirstMax v (L.filter P) y := by
  have py : P y = true := by
    cases e : P y with
    | true => rfl
    | false =>
      obtain ⟨x', m, l⟩ := hP y h.mem e
      have := h.le m
      omega
  obtain ⟨pre, post, rfl, h1, h2⟩ := h
  refine ⟨pre.filter P, post.filter P, ?_, fun z hz => h1 z (List.mem_filter.mp hz).1, fun z hz => h2 z (List.mem_filter.mp hz).1⟩
  rw [List.filter_append, List.filter_cons, if_pos py]
theorem FirstMax.map {w : β → Nat} {g : α → β} {c : Nat} (h : FirstMax v L y) (hg : ∀ x ∈ L, w (g x) = c + v x) : FirstMax w (L.map g) (g y) := by
  have hy := hg y h.mem
  obtain ⟨pre, post, rfl, h1, h2⟩ := h
  refine ⟨pre.map g, post.map g, by rw [List.map_append, List.map_cons], fun z hz => ?_, fun z hz => ?_⟩
  · obtain ⟨x, hx, rfl⟩ := List.mem_map.mp hz
    have := hg x (List.mem_append_left _ hx)
    have := h1 x hx
    omega
  · obtain ⟨x, hx, rfl⟩ := List.mem_map.mp hz
    have := hg x (List.mem_append_right _ (List.mem_cons_of_mem _ hx))
    have := h2 x hx
    omega
/-- the specification's fold -/
def fmx (v : α → Nat) (L : List α) : Option (α × Nat) := L.foldl (fun (b : Option (α × Nat)) x => match b with
    | none => some (x, v x)
    | some y => if y.2 < v x then some (x, v x) else some y) none
theorem fmx_from (v : α → Nat) : ∀ (L L0 : List α) (y : α), FirstMax v L0 y → ∃ z, L.foldl (fun (b : Option (α × Nat)) x => match b with
    | none => some (x, v x)
    | some y => if y.2 < v x then some (x, v x) else some y) (some (y, v y)) = some (z, v z) ∧ FirstMax v (L0 ++ L) z
  | [], L0, y, h => ⟨y, rfl, by rw [List.append_nil]; exact h⟩
  | x :: L, L0, y, h => by
    rw [List.foldl_cons]
    have e : L0 ++ x :: L = (L0 ++ [x]) ++ L := by simp
    rw [e]
    by_cases c : v y < v x
    · show ∃ z, List.foldl _ (if v y < v x then some (x, v x) else some (y, v y)) L = _ ∧ _
      rw [if_pos c]
      exact fmx_from v L (L0 ++ [x]) x (.snoc_lt fun z hz => Nat.lt_of_le_of_lt (h.le hz) c)
    · show ∃ z, List.foldl _ (if v y < v x then some (x, v x) else some (y, v y)) L = _ ∧ _
      rw [if_neg c]
      exact fmx_from v L (L0 ++ [x]) y (h.snoc_le (by omega))
theorem fmx_first (v : α → Nat) {L : List α} (h : L ≠ []) : ∃ z, fmx v L = some (z, v z) ∧ FirstMax v L z := by
  cases L with
  | nil => exact absurd rfl h
  | cons x L => exact fmx_from v L [x] x ⟨[], [], rfl, fun z hz => absurd hz List.not_mem_nil, fun z hz => absurd hz List.not_mem_nil⟩
end
/-! ### so many out of a list, or fewer -/
theorem some_sub : ∀ (k : Nat) (l x : List Nat), x ∈ some_ k l → x.Sublist l ∧ x.length ≤ k
  | 0, l, x, h => by
    have h : x ∈ [[]] := by cases l <;> exact h
    rw [List.mem_singleton.mp h]
    exact ⟨List.nil_sublist _, Nat.le_refl _⟩
  | k + 1, [], x, h => by
    have h : x ∈ [[]] := h
    rw [List.mem_singleton.mp h]
    exact ⟨List.nil_sublist _, Nat.zero_le _⟩
  | k + 1, a :: l, x, h => by
    have h : x ∈ (some_ k l).map (fun s => a :: s) ++ some_ (k + 1) l := h
    rcases List.mem_append.mp h with m | m
    · obtain ⟨s, hs, rfl⟩ := List.mem_map.mp m
      obtain ⟨h1, h2⟩ := some_sub k l s hs
      exact ⟨h1.cons_cons _, by rw [List.length_cons]; omega⟩
    · obtain ⟨h1, h2⟩ := some_sub (k + 1) l x m
      exact ⟨h1.cons _, h2⟩
theorem some_of : ∀ (k : Nat) (l x : List Nat), x.Sublist l → x.length ≤ k → x ∈ some_ k l
  | 0, l, x, h, hl => by
    have : x = [] := List.length_eq_zero_iff.mp (by omega)
    subst this
    cases l <;> exact List.mem_singleton.mpr rfl
  | k + 1, [], x, h, hl => by
    rw [List.sublist_nil.mp h]
    exact List.mem_singleton.mpr rfl
  | k + 1, a :: l, x, h, hl => by
    show x ∈ (some_ k l).map (fun s => a :: s) ++ some_ (k + 1) l
    cases h with
    | cons _ h => exact List.mem_append_right _ (some_of (k + 1) l x h hl)
    | cons_cons _ h => exact List.mem_append_left _ (List.mem_map.mpr ⟨_, some_of k l _ h (by rw [List.length_cons] at hl; omega), rfl⟩)
theorem some_head : ∀ (k : Nat) (l : List Nat), l.length ≤ k → ∃ r, some_ k l = l :: r
  | 0, l, h => by
    have : l = [] := List.length_eq_zero_iff.mp (by omega)
    subst this
    exact ⟨[], rfl⟩
  | k + 1, [], h => ⟨[], rfl⟩
  | k + 1, a :: l, h => by
    obtain ⟨r, e⟩ := some_head k l (by rw [List.length_cons] at h; omega)
    refine ⟨r.map (fun s => a :: s) ++ some_ (k + 1) l, ?_⟩
    show (some_ k l).map (fun s => a :: s) ++ some_ (k + 1) l = _
    rw [e]
    rfl
theorem some_ne (k : Nat) (l : List Nat) : some_ k l ≠ [] := fun z => by
  have := some_of k l [] (List.nil_sublist _) (Nat.zero_le _)
  rw [z] at this
  cases this
/-- the program's: as many as may be -/
def ch : (e : Nat) → (l : List Nat) → List (List Nat)
  | e, [] => [[]]
  | e, a :: l => if l.length + 1 ≤ e then [a :: l] else match e with
    | 0 => [[]]
    | e + 1 => (ch e l).map (fun s => a :: s) ++ ch (e + 1) l
theorem full_one : ∀ (l : List Nat), (some_ l.length l).filter (fun x => x.length == l.length) = [l]
  | [] => rfl
  | a :: l => by
    show ((some_ l.length l).map (fun s => a :: s) ++ some_ (l.length + 1) l).filter (fun x => x.length == l.length + 1) = _
    rw [List.filter_append, List.filter_map]
    have e1 : ((fun x : List Nat => x.length == l.length + 1) ∘ fun s => a :: s) = fun x => x.length == l.length := by
      funext x
      show (x.length + 1 == l.length + 1) = (x.length == l.length)
      rw [Bool.eq_iff_iff]
      simp
    rw [e1, full_one l]
    have e2 : (some_ (l.length + 1) l).filter (fun x => x.length == l.length + 1) = [] := by
      rw [List.filter_eq_nil_iff]
      intro x hx z
      have := (some_sub _ _ _ hx).1.length_le
      have := beq_iff_eq.mp z
      omega
    rw [e2]
    rfl
theorem ch_eq : ∀ (l : List Nat) (e : Nat), e ≤ l.length → ch e l = (some_ e l).filter fun x => x.length == e
  | [], e, h => by
    have : e = 0 := by simpa using h
    subst this
    rfl
  | a :: l, e, h => by
    rw [List.length_cons] at h
    by_cases c : l.length + 1 ≤ e
    · have : e = (a :: l).length := by rw [List.length_cons]; omega
      rw [show ch e (a :: l) = [a :: l] by unfold ch; rw [if_pos c], this, full_one]
    · cases e with
      | zero => 
        rw [show ch 0 (a :: l) = [[]] by unfold ch; rw [if_neg c]]
        rfl
      | succ e =>
        rw [show ch (e + 1) (a :: l) = (ch e l).map (fun s => a :: s) ++ ch (e + 1) l by rw [ch, if_neg c]]
        rw [ch_eq l e (by omega), ch_eq l (e + 1) (by omega)]
        show _ = ((some_ e l).map (fun s => a :: s) ++ some_ (e + 1) l).filter _
        rw [List.filter_append, List.filter_map]
        congr 2
        refine List.filter_congr fun x _ => ?_
        show _ = (x.length + 1 == e + 1)
        rw [Bool.eq_iff_iff]
        simp
/-! ### lists out of a list -/
theorem sub_filter {l x : List Nat} (nd : l.Nodup) (h : x.Sublist l) : l.filter (fun a => x.contains a) = x := by
  induction h with
  | slnil => rfl
  | @cons x l a h ih =>
    rw [List.nodup_cons] at nd
    rw [List.filter_cons, if_neg]
    · exact ih nd.2
    · intro z
      exact nd.1 (h.subset (by simpa using z))
  | @cons_cons x l a h ih =>
    rw [List.nodup_cons] at nd
    rw [List.filter_cons, if_pos (by simp)]
    congr 1
    rw [← ih nd.2]
    refine List.filter_congr fun b hb => ?_
    rw [ih nd.2]
    have : b ≠ a := fun z => nd.1 (z ▸ hb)
    rw [Bool.eq_iff_iff]
    simp [this]
end FS

set_option maxRecDepth 100000
set_option maxHeartbeats 4000000
namespace FS
open Su121 (Abs some_)
/-! # The best from a front on -/
/-- those left out -/
def out (l x : List Nat) : List Nat := l.filter fun a => !x.contains a
noncomputable def bs (up : List Nat) (n f e : Nat) : Nat → List Nat → List Nat
  | 0, _ => []
  | k + 1, l => if l = [] then [] else (fmx (sm (sz up n f)) ((some_ e l).map fun x => x ++ bs up n f e k (kids up n f (out l x)))).elim [] fun y => y.1
/-- places there, none twice -/
structure Pl (n : Nat) (l : List Nat) : Prop where
  nd : l.Nodup
  lt : ∀ p ∈ l, p < n
theorem Pl.sub {n : Nat} {l m : List Nat} (h : Pl n l) (s : m.Sublist l) : Pl n m := ⟨h.nd.sublist s, fun p hp => h.lt p (s.subset hp)⟩
theorem Pl.filter {n : Nat} {l : List Nat} (h : Pl n l) (P : Nat → Bool) : Pl n (l.filter P) := h.sub List.filter_sublist
theorem Pl.out {n : Nat} {l : List Nat} (h : Pl n l) (x : List Nat) : Pl n (out l x) := h.filter _
theorem pl_kids {up : List Nat} {n f : Nat} {l : List Nat} : Pl n (kids up n f l) := ⟨kids_nd, kids_lt⟩
theorem out_mem {l x : List Nat} {a : Nat} : a ∈ out l x ↔ a ∈ l ∧ a ∉ x := by
  unfold out
  rw [List.mem_filter]
  simp
section
variable {up : List Nat} {n f e : Nat}
theorem bs_nil : ∀ k, bs up n f e k [] = []
  | 0 => rfl
  | k + 1 => if_pos rfl
theorem bs_first {k : Nat} {l : List Nat} (h : l ≠ []) : FirstMax (sm (sz up n f)) ((some_ e l).map fun x => x ++ bs up n f e k (kids up n f (out l x))) (bs up n f e (k + 1) l) := by
  obtain ⟨z, h1, h2⟩ := fmx_first (sm (sz up n f)) (L := (some_ e l).map fun x => x ++ bs up n f e k (kids up n f (out l x))) (fun z => some_ne e l (List.map_eq_nil_iff.mp z))
  have : bs up n f e (k + 1) l = z := by
    unfold bs
    rw [if_neg h, h1]
    rfl
  rw [this]
  exact h2
theorem bs_ge {k : Nat} {l x : List Nat} (hx : x ∈ some_ e l) : sm (sz up n f) (x ++ bs up n f e k (kids up n f (out l x))) ≤ sm (sz up n f) (bs up n f e (k + 1) l) := by
  by_cases h : l = []
  · subst h
    have : x = [] := List.sublist_nil.mp (some_sub _ _ _ hx).1
    subst this
    have e1 : kids up n f (out [] []) = [] := kids_nil
    rw [e1, bs_nil]
    exact Nat.zero_le _
  · exact (bs_first h).le (List.mem_map.mpr ⟨x, hx, rfl⟩)
theorem kids_filter (A : List Nat) (P : Nat → Bool) : (kids up n f A).filter (fun q => P (tow up f q)) = kids up n f (A.filter P) := by
  unfold kids
  rw [List.filter_filter]
  refine List.filter_congr fun q _ => ?_
  rw [Bool.eq_iff_iff]
  simp only [Bool.and_eq_true, List.contains_iff_mem, List.mem_filter]
  constructor
  · rintro ⟨h1, h2, h3⟩; exact ⟨h2, h3, h1⟩
  · rintro ⟨h1, h2, h3⟩; exact ⟨h3, h1, h2⟩
theorem out_filter (l x : List Nat) (Q : Nat → Bool) : (out l x).filter Q = out (l.filter Q) (x.filter Q) := by
  unfold out
  rw [List.filter_filter, List.filter_filter]
  refine List.filter_congr fun a _ => ?_
  rw [Bool.eq_iff_iff]
  simp only [Bool.and_eq_true, Bool.not_eq_true', List.contains_eq_mem, decide_eq_false_iff_not, List.mem_filter, not_and, Bool.not_eq_true]
  constructor
  · rintro ⟨h1, h2⟩; exact ⟨fun z => absurd z h2, h1⟩
  · rintro ⟨h1, h2⟩; exact ⟨h2, fun z => by have := h1 z; rw [h2] at this; cases this⟩
theorem out_split {S : Nat → Nat} {l x : List Nat} (nd : l.Nodup) (h : x.Sublist l) : sm S l = sm S x + sm S (out l x) := by
  rw [sm_split (fun a => x.contains a) l, sub_filter nd h]
  rfl
theorem lip (hf : f < n) : ∀ (k : Nat) (l : List Nat) (Q : Nat → Bool), Pl n l → sm (sz up n f) (bs up n f e k l) ≤ sm (sz up n f) (bs up n f e k (l.filter Q)) + sm (sz up n f) (l.filter fun a => !Q a)
  | 0, l, Q, p => Nat.zero_le _
  | k + 1, l, Q, p => by
    by_cases h : l = []
    · subst h
      rw [bs_nil]
      exact Nat.zero_le _
    obtain ⟨x, hx, ex⟩ := List.mem_map.mp (bs_first (up := up) (n := n) (f := f) (e := e) (k := k) h).mem
    obtain ⟨sx, lx⟩ := some_sub _ _ _ hx
    rw [← ex, sm_append]
    have ih := lip hf k (kids up n f (out l x)) (fun q => Q (tow up f q)) pl_kids
    rw [kids_filter (out l x) Q, out_filter] at ih
    have e2 : (kids up n f (out l x)).filter (fun a => !Q (tow up f a)) = kids up n f ((out l x).filter fun a => !Q a) := kids_filter (out l x) fun a => !Q a
    rw [e2] at ih
    have kl := kids_le (up := up) hf ((p.out x).filter fun a => !Q a).nd ((p.out x).filter fun a => !Q a).lt
    have hC : x.filter Q ∈ some_ e (l.filter Q) := some_of _ _ _ (sx.filter Q) (Nat.le_trans (List.length_filter_le _ _) lx)
    have ge := bs_ge (up := up) (n := n) (f := f) (k := k) hC
    rw [sm_append] at ge
    have s1 := sm_split (S := sz up n f) Q x
    have s2 : sm (sz up n f) (l.filter fun a => !Q a) = sm (sz up n f) (x.filter fun a => !Q a) + sm (sz up n f) ((out l x).filter fun a => !Q a) := by
      rw [out_split (p.filter fun a => !Q a).nd (sx.filter fun a => !Q a), out_filter]
    omega
theorem bs_le (hf : f < n) (k : Nat) {l : List Nat} (p : Pl n l) : sm (sz up n f) (bs up n f e k l) ≤ sm (sz up n f) l := by
  have h := lip (up := up) (e := e) hf k l (fun _ => false) p
  have e1 : l.filter (fun _ => false) = [] := by simp
  have e2 : l.filter (fun a => !(fun _ => false : Nat → Bool) a) = l := by simp
  rw [e1, e2, bs_nil] at h
  simpa [sm] using h
/-- fewer than may be are never the best -/
theorem fewer (hf : f < n) {k : Nat} {l x : List Nat} (p : Pl n l) (hx : x ∈ some_ e l) (h1 : x.length < e) (h2 : x.length < l.length) :
    ∃ x' ∈ some_ e l, sm (sz up n f) (x ++ bs up n f e k (kids up n f (out l x))) < sm (sz up n f) (x' ++ bs up n f e k (kids up n f (out l x'))) := by
  obtain ⟨sx, lx⟩ := some_sub _ _ _ hx
  obtain ⟨q, hq, nq⟩ : ∃ q ∈ l, q ∉ x := by
    refine Classical.byContradiction fun c => ?_
    have : l ⊆ x := fun a ha => Classical.byContradiction fun z => c ⟨a, ha, z⟩
    have := p.nd.length_le_of_subset this
    omega
  have ndx := p.nd.sublist sx
  let x' := l.filter fun a => x.contains a || a == q
  have hl : x'.length = x.length + 1 := by
    have h0 := filter_more p.nd hq (P := fun a => x.contains a) (Q := fun a => x.contains a || a == q) (fun y _ => rfl) (by simpa using nq)
    rw [sub_filter p.nd sx] at h0
    exact h0
  have mx' : ∀ a, a ∈ x' ↔ a ∈ x ∨ a = q := fun a => by
    show a ∈ l.filter _ ↔ _
    rw [List.mem_filter]
    simp only [Bool.or_eq_true, List.contains_iff_mem, beq_iff_eq]
    exact ⟨fun h => h.2, fun h => ⟨h.elim (fun z => sx.subset z) fun z => z ▸ hq, h⟩⟩
  refine ⟨x', some_of _ _ _ List.filter_sublist (by omega), ?_⟩
  rw [sm_append, sm_append]
  have e1 : sm (sz up n f) x' = sm (sz up n f) x + sz up n f q := by
    have pm : x'.Perm (q :: x) := (List.perm_ext_iff_of_nodup (p.nd.sublist List.filter_sublist) (List.nodup_cons.mpr ⟨nq, ndx⟩)).mpr fun a => by
      rw [mx', List.mem_cons]
      exact or_comm
    rw [sm_perm pm, sm_cons]
    omega
  have ih := lip (up := up) (e := e) hf k (kids up n f (out l x)) (fun a => tow up f a != q) pl_kids
  have k1 : (kids up n f (out l x)).filter (fun a => tow up f a != q) = kids up n f (out l x') := by
    rw [kids_filter (out l x) fun a => a != q]
    congr 1
    unfold out
    rw [List.filter_filter]
    refine List.filter_congr fun a _ => ?_
    rw [Bool.eq_iff_iff]
    simp only [Bool.and_eq_true, bne_iff_ne, Bool.not_eq_true', List.contains_eq_mem, decide_eq_false_iff_not, mx', not_or]
    exact and_comm
  have k2 : (kids up n f (out l x)).filter (fun a => !(tow up f a != q)) = kids up n f [q] := by
    rw [kids_filter (out l x) fun a => !(a != q)]
    unfold kids
    refine List.filter_congr fun a _ => ?_
    congr 1
    rw [Bool.eq_iff_iff]
    simp only [List.contains_iff_mem, List.mem_filter, out_mem, Bool.not_eq_true', bne_eq_false_iff_eq, List.mem_singleton]
    exact ⟨fun h => h.2, fun h => ⟨by rw [h]; exact ⟨hq, nq⟩, h⟩⟩
  rw [k1, k2] at ih
  have := kids_one (up := up) hf (p.lt q hq)
  omega
/-- all of a front that fits -/
theorem bs_fits (hf : f < n) {k : Nat} {l : List Nat} (p : Pl n l) (h : l.length ≤ e) : bs up n f e (k + 1) l = l := by
  by_cases c : l = []
  · subst c
    exact bs_nil _
  obtain ⟨r, hr⟩ := some_head e l h
  have e0 : kids up n f (out l l) = [] := by
    have : out l l = [] := by
      unfold out
      rw [List.filter_eq_nil_iff]
      simp
    rw [this, kids_nil]
  have hv : ∀ z ∈ some_ e l, sm (sz up n f) (z ++ bs up n f e k (kids up n f (out l z))) ≤ sm (sz up n f) (l ++ bs up n f e k (kids up n f (out l l))) := fun z hz => by
    obtain ⟨sz_, _⟩ := some_sub _ _ _ hz
    rw [e0, bs_nil, List.append_nil, sm_append, out_split p.nd sz_]
    have h1 := bs_le (up := up) (e := e) hf k (l := kids up n f (out l z)) pl_kids
    have h2 := kids_le (up := up) hf (p.out z).nd (p.out z).lt
    omega
  have fm : FirstMax (sm (sz up n f)) ((some_ e l).map fun x => x ++ bs up n f e k (kids up n f (out l x))) (l ++ bs up n f e k (kids up n f (out l l))) := by
    refine ⟨[], r.map fun x => x ++ bs up n f e k (kids up n f (out l x)), by rw [hr]; rfl, fun z hz => absurd hz List.not_mem_nil, fun z hz => ?_⟩
    obtain ⟨x, hx, rfl⟩ := List.mem_map.mp hz
    exact hv x (by rw [hr]; exact List.mem_cons_of_mem _ hx)
  have := (bs_first (up := up) (n := n) (f := f) (e := e) (k := k) c).unique fm
  rw [this, e0, bs_nil, List.append_nil]
/-- a front that doesn't fit: the first of the greatest of those of as many as may be -/
theorem bs_full (hf : f < n) {k : Nat} {l : List Nat} (p : Pl n l) (h : e < l.length) :
    FirstMax (sm (sz up n f)) ((ch e l).map fun x => x ++ bs up n f e k (kids up n f (out l x))) (bs up n f e (k + 1) l) := by
  have c : l ≠ [] := fun z => by rw [z] at h; cases h
  obtain ⟨pre, post, e1, h1, h2⟩ := bs_first (up := up) (n := n) (f := f) (e := e) (k := k) c
  obtain ⟨x0, hx0, ex0⟩ := List.mem_map.mp (bs_first (up := up) (n := n) (f := f) (e := e) (k := k) c).mem
  have key : FirstMax (fun x => sm (sz up n f) (x ++ bs up n f e k (kids up n f (out l x)))) (some_ e l) ((some_ e l).getD pre.length []) ∧ (some_ e l).getD pre.length [] ++ bs up n f e k (kids up n f (out l ((some_ e l).getD pre.length []))) = bs up n f e (k + 1) l := by
    obtain ⟨l1, l2, a1, a2, a3⟩ := List.map_eq_append_iff.mp e1
    obtain ⟨y, l3, b1, b2, b3⟩ := List.map_eq_cons_iff.mp a3
    subst b1
    have g : (some_ e l).getD pre.length [] = y := by
      rw [a1, ← a2, List.length_map, List.getD_eq_getElem?_getD, List.getElem?_append_right (Nat.le_refl _), Nat.sub_self]
      rfl
    rw [g]
    refine ⟨⟨l1, l3, a1, fun z hz => ?_, fun z hz => ?_⟩, b2⟩
    · show _ < sm (sz up n f) (y ++ _)
      rw [b2]
      exact h1 _ (by rw [← a2]; exact List.mem_map.mpr ⟨z, hz, rfl⟩)
    · show _ ≤ sm (sz up n f) (y ++ _)
      rw [b2]
      exact h2 _ (by rw [← b3]; exact List.mem_map.mpr ⟨z, hz, rfl⟩)
  rw [ch_eq l e (by omega), ← key.2]
  have fl := key.1.filter (P := fun x => x.length == e) fun x hx hn => by
    obtain ⟨sx, lx⟩ := some_sub _ _ _ hx
    have ne : x.length ≠ e := by simpa using hn
    exact fewer hf p hx (by omega) (by omega)
  exact FirstMax.map (c := 0) fl fun x _ => by simp
end
end FS

set_option maxRecDepth 100000
set_option maxHeartbeats 4000000
namespace FS
open Su121 (Abs some_ bestFrom greedyFrom levelBy keptBy behind sizeBy insertBy)
/-! # The specification's words, told by kids and counts -/
section
variable {x : Abs}
theorem path_contains (w : Wf x.tree.up) (hf : x.fire < x.n) {p q : Nat} (hp : p < x.n) (hq : q < x.n) : (x.paths.getD p []).contains q = decide (On x.tree.up x.fire p q) := by
  rw [paths_get hp, Bool.eq_iff_iff, List.contains_iff_mem, path_mem w hf hp, decide_eq_true_eq]
  exact ⟨fun h => h.2, fun h => ⟨hq, h⟩⟩
theorem path_contains' (w : Wf x.tree.up) (hf : x.fire < x.n) {p q : Nat} (hp : p < x.n) : (x.paths.getD p []).contains q = true ↔ q < x.n ∧ On x.tree.up x.fire p q := by
  rw [paths_get hp, List.contains_iff_mem, path_mem w hf hp]
  exact Iff.rfl
theorem sizeBy_eq (w : Wf x.tree.up) (hf : x.fire < x.n) {p : Nat} (hp : p < x.n) : sizeBy x.paths p = sz x.tree.up x.n x.fire p := by
  unfold sizeBy sz
  rw [paths_len]
  refine congrArg List.length (List.filter_congr fun r hr => ?_)
  rw [path_contains w hf (List.mem_range.mp hr) hp]
theorem behind_iff (w : Wf x.tree.up) (hf : x.fire < x.n) {s : List Nat} {p : Nat} (hp : p < x.n) : behind x.paths s p = true ↔ ∃ q ∈ s, q < x.n ∧ On x.tree.up x.fire p q := by
  unfold behind
  rw [List.any_eq_true]
  constructor
  · rintro ⟨q, h1, h2⟩; exact ⟨q, h1, (path_contains' w hf hp).mp h2⟩
  · rintro ⟨q, h1, h2⟩; exact ⟨q, h1, (path_contains' w hf hp).mpr h2⟩
theorem keptBy_eq (w : Wf x.tree.up) (hf : x.fire < x.n) {s : List Nat} (hs : ∀ p ∈ s, p < x.n) : keptBy x.paths s = cov x.tree.up x.n x.fire s := by
  unfold keptBy cov
  rw [paths_len]
  refine congrArg List.length (List.filter_congr fun r hr => ?_)
  rw [Bool.eq_iff_iff, behind_iff w hf (List.mem_range.mp hr), List.any_eq_true]
  constructor
  · rintro ⟨q, h1, h2, h3⟩; exact ⟨q, h1, decide_eq_true h3⟩
  · rintro ⟨q, h1, h3⟩; exact ⟨q, h1, hs q h1, of_decide_eq_true h3⟩
theorem mem_level (w : Wf x.tree.up) (hf : x.fire < x.n) {d : Nat} {s : List Nat} {p : Nat} : p ∈ levelBy x.paths d s ↔ p < x.n ∧ dd x.tree.up x.fire p = d ∧ ¬ ∃ q ∈ s, q < x.n ∧ On x.tree.up x.fire p q := by
  unfold levelBy
  rw [List.mem_filter, List.mem_range, paths_len]
  constructor
  · rintro ⟨h1, h2⟩
    rw [Bool.and_eq_true, beq_iff_eq, Bool.not_eq_true', paths_get h1, path_len w hf _ p h1 (Nat.le_refl _)] at h2
    exact ⟨h1, by omega, fun z => by rw [(behind_iff w hf h1).mpr z] at h2; cases h2.2⟩
  · rintro ⟨h1, h2, h3⟩
    refine ⟨h1, ?_⟩
    rw [Bool.and_eq_true, beq_iff_eq, Bool.not_eq_true', paths_get h1, path_len w hf _ p h1 (Nat.le_refl _)]
    refine ⟨by omega, ?_⟩
    cases e : behind x.paths s p with
    | false => rfl
    | true => exact absurd ((behind_iff w hf h1).mp e) h3
theorem level_pl (d : Nat) (s : List Nat) : Pl x.n (levelBy x.paths d s) := by
  unfold levelBy
  refine ⟨List.Pairwise.filter _ List.nodup_range, fun p hp => ?_⟩
  have := List.mem_range.mp (List.mem_filter.mp hp).1
  rwa [paths_len] at this
/-- what's saved ahead lies less deep, and is there -/
structure Ahead (x : Abs) (d : Nat) (s : List Nat) : Prop where
  lt : ∀ p ∈ s, p < x.n
  dep : ∀ p ∈ s, dd x.tree.up x.fire p < d
theorem Ahead.snoc (w : Wf x.tree.up) (hf : x.fire < x.n) {d : Nat} {s y : List Nat} (a : Ahead x d s) (hy : ∀ p ∈ y, p ∈ levelBy x.paths d s) : Ahead x (d + 1) (s ++ y) := by
  refine ⟨fun p hp => ?_, fun p hp => ?_⟩
  · rcases List.mem_append.mp hp with h | h
    · exact a.lt p h
    · exact ((mem_level w hf).mp (hy p h)).1
  · rcases List.mem_append.mp hp with h | h
    · exact Nat.lt_succ_of_lt (a.dep p h)
    · rw [((mem_level w hf).mp (hy p h)).2.1]
      exact Nat.lt_succ_self _
/-- the next front -/
theorem level_next (w : Wf x.tree.up) (hf : x.fire < x.n) {d : Nat} {s y : List Nat} (a : Ahead x d s) (hy : ∀ p ∈ y, p ∈ levelBy x.paths d s) :
    levelBy x.paths (d + 1) (s ++ y) = kids x.tree.up x.n x.fire (out (levelBy x.paths d s) y) := by
  have a' := a.snoc w hf hy
  have key : ∀ q, q ∈ levelBy x.paths (d + 1) (s ++ y) ↔ q ∈ kids x.tree.up x.n x.fire (out (levelBy x.paths d s) y) := fun q => by
    rw [mem_level w hf, mem_kids, out_mem, mem_level w hf]
    constructor
    · rintro ⟨h1, h2, h3⟩
      have ne : q ≠ x.fire := fun z => by rw [z, dd_self] at h2; omega
      have td := tow_dep (up := x.tree.up) ne
      have tl := tow_lt (up := x.tree.up) ne hf h1
      refine ⟨h1, ne, ⟨tl, by omega, fun ⟨r, r1, r2, r3⟩ => h3 ⟨r, List.mem_append_left _ r1, r2, (on_tow ne).mpr (.inr r3)⟩⟩, fun z => h3 ⟨_, List.mem_append_right _ z, tl, (on_tow ne).mpr (.inr (on_end _ _))⟩⟩
    · rintro ⟨h1, ne, ⟨h2, h3, h4⟩, h5⟩
      have td := tow_dep (up := x.tree.up) ne
      refine ⟨h1, by omega, fun ⟨r, r1, r2, r3⟩ => ?_⟩
      rcases (on_tow ne).mp r3 with z | z
      · have := a'.dep r r1
        rw [z] at this
        omega
      · rcases List.mem_append.mp r1 with m | m
        · exact h4 ⟨r, m, r2, z⟩
        · have := ((mem_level w hf).mp (hy r m)).2.1
          rw [on_eq z (by omega)] at m
          exact h5 m
  unfold levelBy kids at key ⊢
  rw [paths_len] at key ⊢
  refine List.filter_congr fun q hq => ?_
  have := key q
  rw [List.mem_filter, List.mem_filter] at this
  rw [Bool.eq_iff_iff]
  exact ⟨fun h => (this.mp ⟨hq, h⟩).2, fun h => (this.mpr ⟨hq, h⟩).2⟩
/-- each turn's keep their own parts -/
theorem cov_snoc (hf : x.fire < x.n) (w : Wf x.tree.up) {d : Nat} {s y : List Nat} (a : Ahead x d s) (hy : ∀ p ∈ y, p ∈ levelBy x.paths d s) (nd : y.Nodup) :
    cov x.tree.up x.n x.fire (s ++ y) = cov x.tree.up x.n x.fire s + sm (sz x.tree.up x.n x.fire) y := by
  rw [← cov_sum nd fun p hp q hq ne r _ => disj_dep (by rw [((mem_level w hf).mp (hy p hp)).2.1, ((mem_level w hf).mp (hy q hq)).2.1]) ne]
  unfold cov
  rw [← filter_or]
  · refine congrArg List.length (List.filter_congr fun r _ => ?_)
    rw [List.any_append]
  · intro r _ ⟨h1, h2⟩
    rw [List.any_eq_true] at h1 h2
    obtain ⟨q, q1, q2⟩ := h1
    obtain ⟨p, p1, p2⟩ := h2
    rw [decide_eq_true_eq] at q2 p2
    obtain ⟨_, m2, m3⟩ := (mem_level w hf).mp (hy p p1)
    have := a.dep q q1
    exact m3 ⟨q, q1, a.lt q q1, on_comp _ r (Nat.le_refl _) p2 q2 (by omega)⟩
/-! ### the best -/
theorem best_is (w : Wf x.tree.up) (hf : x.fire < x.n) (e : Nat) : ∀ (k d : Nat) (s : List Nat), Ahead x d s →
    bestFrom x.paths e k d s = s ++ bs x.tree.up x.n x.fire e k (levelBy x.paths d s) ∧
    cov x.tree.up x.n x.fire (bestFrom x.paths e k d s) = cov x.tree.up x.n x.fire s + sm (sz x.tree.up x.n x.fire) (bs x.tree.up x.n x.fire e k (levelBy x.paths d s)) ∧ (∀ p ∈ bestFrom x.paths e k d s, p < x.n)
  | 0, d, s, a => ⟨(List.append_nil _).symm, rfl, a.lt⟩
  | k + 1, d, s, a => by
    by_cases h : levelBy x.paths d s = []
    · have e1 : bestFrom x.paths e (k + 1) d s = s := by
        show (if levelBy x.paths d s = [] then s else _) = s
        rw [if_pos h]
      rw [e1, h, bs_nil]
      exact ⟨(List.append_nil _).symm, rfl, a.lt⟩
    have sub : ∀ y ∈ some_ e (levelBy x.paths d s), (∀ p ∈ y, p ∈ levelBy x.paths d s) ∧ y.Nodup := fun y hy => by
      obtain ⟨h1, _⟩ := some_sub _ _ _ hy
      exact ⟨fun p hp => h1.subset hp, (level_pl (x := x) d s).nd.sublist h1⟩
    have ih : ∀ y ∈ some_ e (levelBy x.paths d s), bestFrom x.paths e k (d + 1) (s ++ y) = s ++ (y ++ bs x.tree.up x.n x.fire e k (kids x.tree.up x.n x.fire (out (levelBy x.paths d s) y))) ∧
        cov x.tree.up x.n x.fire (bestFrom x.paths e k (d + 1) (s ++ y)) = cov x.tree.up x.n x.fire s + sm (sz x.tree.up x.n x.fire) (y ++ bs x.tree.up x.n x.fire e k (kids x.tree.up x.n x.fire (out (levelBy x.paths d s) y))) ∧ (∀ p ∈ bestFrom x.paths e k (d + 1) (s ++ y), p < x.n) := fun y hy => by
      obtain ⟨h1, h2⟩ := sub y hy
      obtain ⟨i1, i2, i3⟩ := best_is w hf e k (d + 1) (s ++ y) (a.snoc w hf h1)
      rw [level_next w hf a h1] at i1 i2
      refine ⟨by rw [i1, List.append_assoc], ?_, i3⟩
      rw [i2, cov_snoc hf w a h1 h2, sm_append]
      omega
    have hL : (some_ e (levelBy x.paths d s)).map (fun y => bestFrom x.paths e k (d + 1) (s ++ y)) = ((some_ e (levelBy x.paths d s)).map fun y => y ++ bs x.tree.up x.n x.fire e k (kids x.tree.up x.n x.fire (out (levelBy x.paths d s) y))).map fun z => s ++ z := by
      rw [List.map_map]
      exact List.map_congr_left fun y hy => (ih y hy).1
    have fm := (bs_first (up := x.tree.up) (n := x.n) (f := x.fire) (e := e) (k := k) h).map (w := keptBy x.paths) (g := fun z => s ++ z) (c := cov x.tree.up x.n x.fire s) fun z hz => by
      obtain ⟨y, hy, rfl⟩ := List.mem_map.mp hz
      obtain ⟨i1, i2, i3⟩ := ih y hy
      rw [← i2, ← i1]
      exact keptBy_eq w hf i3
    rw [← hL] at fm
    obtain ⟨z, f1, f2⟩ := fmx_first (keptBy x.paths) (L := (some_ e (levelBy x.paths d s)).map fun y => bestFrom x.paths e k (d + 1) (s ++ y)) (fun z => some_ne e _ (List.map_eq_nil_iff.mp z))
    have e1 : bestFrom x.paths e (k + 1) d s = z := by
      have e0 : bestFrom x.paths e (k + 1) d s = if levelBy x.paths d s = [] then s else (fmx (keptBy x.paths) ((some_ e (levelBy x.paths d s)).map fun y => bestFrom x.paths e k (d + 1) (s ++ y))).elim s fun y => y.1 := by
        rw [bestFrom]
        unfold fmx
        have eg : ∀ (g1 g2 : Option (List Nat × Nat) → List Nat → Option (List Nat × Nat)) (L : List (List Nat)), (∀ b c, g1 b c = g2 b c) → L.foldl g1 none = L.foldl g2 none := fun g1 g2 L hg => by
          have : g1 = g2 := by
            funext b c
            exact hg b c
          rw [this]
        split
        · rfl
        · congr 1
          refine eg _ _ _ fun b c => ?_
          cases b <;> rfl
      rw [e0, if_neg h, f1]
      rfl
    have e2 := f2.unique fm
    obtain ⟨y0, hy0, ey0⟩ := List.mem_map.mp f2.mem
    rw [e1]
    refine ⟨e2, ?_, by rw [← ey0]; exact (ih y0 hy0).2.2⟩
    obtain ⟨i1, i2, i3⟩ := ih y0 hy0
    rw [← ey0, i2]
    have : s ++ (y0 ++ bs x.tree.up x.n x.fire e k (kids x.tree.up x.n x.fire (out (levelBy x.paths d s) y0))) = s ++ bs x.tree.up x.n x.fire e (k + 1) (levelBy x.paths d s) := by
      rw [← i1, ey0, e2]
    rw [List.append_cancel_left this]
end
end FS

set_option maxRecDepth 100000
set_option maxHeartbeats 4000000
namespace FS
open Su121 (Abs some_ bestFrom greedyFrom levelBy keptBy behind sizeBy insertBy)
/-! # The greatest first -/
/-- ahead: greater, or as great and lesser -/
def Fst (S : Nat → Nat) (p q : Nat) : Prop := S q < S p ∨ (S p = S q ∧ p < q)
def ins (S : Nat → Nat) (p : Nat) : List Nat → List Nat
  | [] => [p]
  | q :: l => if S q < S p then p :: q :: l else q :: ins S p l
def srt (S : Nat → Nat) (l : List Nat) : List Nat := l.foldl (fun l p => ins S p l) []
section
variable {S : Nat → Nat}
theorem ins_perm (p : Nat) : ∀ l : List Nat, (ins S p l).Perm (p :: l)
  | [] => List.Perm.refl _
  | q :: l => by
    unfold ins
    split
    · exact List.Perm.refl _
    · exact ((ins_perm p l).cons q).trans (List.Perm.swap ..)
theorem ins_fst (p : Nat) : ∀ l : List Nat, (∀ a ∈ l, a < p) → l.Pairwise (Fst S) → (ins S p l).Pairwise (Fst S)
  | [], _, _ => List.pairwise_singleton _ _
  | q :: l, h, hp => by
    rw [List.pairwise_cons] at hp
    unfold ins
    split
    · rename_i c
      refine List.pairwise_cons.mpr ⟨fun b hb => ?_, List.pairwise_cons.mpr hp⟩
      cases hb with
      | head => exact .inl c
      | tail _ hb =>
        rcases hp.1 b hb with z | ⟨z, _⟩
        · exact .inl (by omega)
        · exact .inl (by omega)
    · rename_i c
      refine List.pairwise_cons.mpr ⟨fun b hb => ?_, ins_fst p l (fun a ha => h a (List.mem_cons_of_mem _ ha)) hp.2⟩
      rcases List.mem_cons.mp ((ins_perm p l).mem_iff.mp hb) with e | m
      · rw [e]
        have := h q (List.mem_cons_self ..)
        by_cases z : S p < S q
        · exact .inl z
        · exact .inr ⟨by omega, this⟩
      · exact hp.1 b m
theorem srt_from : ∀ (l acc : List Nat), (acc ++ l).Pairwise (· ≠ ·) → (∀ a ∈ acc, ∀ b ∈ l, a < b) → l.Pairwise (· < ·) → acc.Pairwise (Fst S) → (l.foldl (fun l p => ins S p l) acc).Pairwise (Fst S) ∧ (l.foldl (fun l p => ins S p l) acc).Perm (acc ++ l)
  | [], acc, _, _, _, h => ⟨h, by rw [List.append_nil]; exact List.Perm.refl _⟩
  | p :: l, acc, nd, hl, hr, h => by
    rw [List.pairwise_cons] at hr
    have i1 := ins_perm (S := S) p acc
    have pm : (ins S p acc ++ l).Perm (acc ++ p :: l) := (i1.append_right l).trans (List.perm_middle.symm)
    obtain ⟨h1, h2⟩ := srt_from l (ins S p acc) (pm.symm.pairwise nd fun h => h.symm) (fun a ha b hb => by
      rcases List.mem_cons.mp (i1.mem_iff.mp ha) with e | m
      · rw [e]; exact hr.1 b hb
      · exact hl a m b (List.mem_cons_of_mem _ hb)) hr.2 (ins_fst p acc (fun a ha => hl a ha p (List.mem_cons_self ..)) h)
    exact ⟨h1, h2.trans pm⟩
theorem srt_ok {l : List Nat} (hr : l.Pairwise (· < ·)) : (srt S l).Pairwise (Fst S) ∧ (srt S l).Perm l := by
  have := srt_from (S := S) l [] (by rw [List.nil_append]; exact hr.imp fun h => Nat.ne_of_lt h) (fun a ha => absurd ha List.not_mem_nil) hr List.Pairwise.nil
  rwa [List.nil_append] at this
theorem fst_asymm {a b : Nat} (h : Fst S a b) (h' : Fst S b a) : False := by
  unfold Fst at h h'
  omega
/-- what's in that order is that list -/
theorem srt_one {l m : List Nat} (hr : l.Pairwise (· < ·)) (pm : m.Perm l) (hm : m.Pairwise fun a b => ¬ Fst S b a) : m = srt S l := by
  obtain ⟨h1, h2⟩ := srt_ok (S := S) hr
  have nd : m.Nodup := pm.symm.nodup (hr.imp fun h => Nat.ne_of_lt h)
  have hm' : m.Pairwise (Fst S) := (hm.and nd).imp fun {a b} ⟨n, ne⟩ => by
    unfold Fst at n ⊢
    by_cases c : S b < S a
    · exact .inl c
    · by_cases c2 : S a = S b
      · exact .inr ⟨c2, by omega⟩
      · omega
  exact List.Perm.eq_of_pairwise (fun a b _ _ x y => (fst_asymm x y).elim) hm' h1 (pm.trans h2.symm)
end
noncomputable def gr (up : List Nat) (n f e : Nat) : Nat → List Nat → List Nat
  | 0, _ => []
  | k + 1, l => if l = [] then [] else (srt (sz up n f) l).take e ++ gr up n f e k (kids up n f (out l ((srt (sz up n f) l).take e)))
section
variable {up : List Nat} {n f e : Nat}
theorem gr_nil : ∀ k, gr up n f e k [] = []
  | 0 => rfl
  | k + 1 => if_pos rfl
end
section
variable {x : Abs}
theorem range_rise (n : Nat) : (List.range n).Pairwise (· < ·) := List.pairwise_lt_range
theorem level_rise (d : Nat) (s : List Nat) : (levelBy x.paths d s).Pairwise (· < ·) := List.Pairwise.filter _ (range_rise _)
theorem kids_rise {up : List Nat} {n f : Nat} {l : List Nat} : (kids up n f l).Pairwise (· < ·) := List.Pairwise.filter _ (range_rise _)
theorem insertBy_eq (w : Wf x.tree.up) (hf : x.fire < x.n) {p : Nat} (hp : p < x.n) : ∀ l : List Nat, (∀ q ∈ l, q < x.n) → insertBy x.paths p l = ins (sz x.tree.up x.n x.fire) p l
  | [], _ => rfl
  | q :: l, h => by
    unfold insertBy ins
    rw [sizeBy_eq w hf hp, sizeBy_eq w hf (h q (List.mem_cons_self ..)), insertBy_eq w hf hp l fun a ha => h a (List.mem_cons_of_mem _ ha)]
theorem srtBy_from (w : Wf x.tree.up) (hf : x.fire < x.n) : ∀ (l acc : List Nat), (∀ q ∈ l, q < x.n) → (∀ q ∈ acc, q < x.n) → l.foldl (fun l p => insertBy x.paths p l) acc = l.foldl (fun l p => ins (sz x.tree.up x.n x.fire) p l) acc
  | [], _, _, _ => rfl
  | p :: l, acc, h, ha => by
    have hp := h p (List.mem_cons_self ..)
    rw [List.foldl_cons, List.foldl_cons, insertBy_eq w hf hp acc ha]
    refine srtBy_from w hf l _ (fun q hq => h q (List.mem_cons_of_mem _ hq)) fun q hq => ?_
    rcases List.mem_cons.mp ((ins_perm p acc).mem_iff.mp hq) with z | z
    · rw [z]; exact hp
    · exact ha q z
theorem greedy_is (w : Wf x.tree.up) (hf : x.fire < x.n) (e : Nat) : ∀ (k d : Nat) (s : List Nat), Ahead x d s →
    greedyFrom x.paths e k d s = s ++ gr x.tree.up x.n x.fire e k (levelBy x.paths d s) ∧
    cov x.tree.up x.n x.fire (greedyFrom x.paths e k d s) = cov x.tree.up x.n x.fire s + sm (sz x.tree.up x.n x.fire) (gr x.tree.up x.n x.fire e k (levelBy x.paths d s)) ∧ (∀ p ∈ greedyFrom x.paths e k d s, p < x.n)
  | 0, d, s, a => ⟨(List.append_nil _).symm, rfl, a.lt⟩
  | k + 1, d, s, a => by
    by_cases h : levelBy x.paths d s = []
    · have e1 : greedyFrom x.paths e (k + 1) d s = s := by
        show (if levelBy x.paths d s = [] then s else _) = s
        rw [if_pos h]
      rw [e1, h, gr_nil]
      exact ⟨(List.append_nil _).symm, rfl, a.lt⟩
    have es : (levelBy x.paths d s).foldl (fun l p => insertBy x.paths p l) [] = srt (sz x.tree.up x.n x.fire) (levelBy x.paths d s) := srtBy_from w hf _ [] (level_pl d s).lt fun q hq => absurd hq List.not_mem_nil
    have e1 : greedyFrom x.paths e (k + 1) d s = greedyFrom x.paths e k (d + 1) (s ++ (srt (sz x.tree.up x.n x.fire) (levelBy x.paths d s)).take e) := by
      show (if levelBy x.paths d s = [] then s else greedyFrom x.paths e k (d + 1) (s ++ ((levelBy x.paths d s).foldl (fun l p => insertBy x.paths p l) []).take e)) = _
      rw [if_neg h, es]
    obtain ⟨h1, h2⟩ := srt_ok (S := sz x.tree.up x.n x.fire) (level_rise (x := x) d s)
    have hy : ∀ p ∈ (srt (sz x.tree.up x.n x.fire) (levelBy x.paths d s)).take e, p ∈ levelBy x.paths d s := fun p hp => h2.mem_iff.mp (List.mem_of_mem_take hp)
    have nd : ((srt (sz x.tree.up x.n x.fire) (levelBy x.paths d s)).take e).Nodup := (h2.symm.nodup (level_pl (x := x) d s).nd).sublist (List.take_sublist _ _)
    obtain ⟨i1, i2, i3⟩ := greedy_is w hf e k (d + 1) _ (a.snoc w hf hy)
    have eg : gr x.tree.up x.n x.fire e (k + 1) (levelBy x.paths d s) = (srt (sz x.tree.up x.n x.fire) (levelBy x.paths d s)).take e ++ gr x.tree.up x.n x.fire e k (kids x.tree.up x.n x.fire (out (levelBy x.paths d s) ((srt (sz x.tree.up x.n x.fire) (levelBy x.paths d s)).take e))) := if_neg h
    rw [level_next w hf a hy] at i1 i2
    rw [e1, eg]
    refine ⟨by rw [i1, List.append_assoc], ?_, i3⟩
    rw [i2, cov_snoc hf w a hy nd, sm_append]
    omega
/-! ### the first front; what the calls tell -/
theorem ahead0 : Ahead x 1 [] := ⟨fun p h => absurd h List.not_mem_nil, fun p h => absurd h List.not_mem_nil⟩
theorem level_first (w : Wf x.tree.up) (hf : x.fire < x.n) : levelBy x.paths 1 [] = kids x.tree.up x.n x.fire [x.fire] := by
  have key : ∀ q, q ∈ levelBy x.paths 1 [] ↔ q ∈ kids x.tree.up x.n x.fire [x.fire] := fun q => by
    rw [mem_level w hf, mem_kids, List.mem_singleton]
    constructor
    · rintro ⟨h1, h2, _⟩
      have ne : q ≠ x.fire := fun z => by rw [z, dd_self] at h2; omega
      have td := tow_dep (up := x.tree.up) ne
      exact ⟨h1, ne, dep_zero (up := x.tree.up) (by omega)⟩
    · rintro ⟨h1, ne, h2⟩
      have td := tow_dep (up := x.tree.up) ne
      rw [h2, dd_self] at td
      exact ⟨h1, by omega, fun ⟨r, hr, _⟩ => absurd hr List.not_mem_nil⟩
  unfold levelBy kids at key ⊢
  rw [paths_len] at key ⊢
  refine List.filter_congr fun q hq => ?_
  have := key q
  rw [List.mem_filter, List.mem_filter] at this
  rw [Bool.eq_iff_iff]
  exact ⟨fun h => (this.mp ⟨hq, h⟩).2, fun h => (this.mpr ⟨hq, h⟩).2⟩
theorem cov_nil {up : List Nat} {n f : Nat} : cov up n f [] = 0 := by simp [cov]
theorem best_eq (w : Wf x.tree.up) (hf : x.fire < x.n) : x.best = bs x.tree.up x.n x.fire x.each x.n (kids x.tree.up x.n x.fire [x.fire]) ∧ x.kept x.best = sm (sz x.tree.up x.n x.fire) x.best := by
  obtain ⟨h1, h2, h3⟩ := best_is w hf x.each x.n 1 [] ahead0
  rw [level_first w hf] at h1 h2
  rw [List.nil_append] at h1
  refine ⟨h1, ?_⟩
  show keptBy x.paths (bestFrom x.paths x.each x.n 1 []) = _
  rw [keptBy_eq w hf h3]
  show cov x.tree.up x.n x.fire (bestFrom x.paths x.each x.n 1 []) = sm _ (bestFrom x.paths x.each x.n 1 [])
  rw [h2, cov_nil, h1, Nat.zero_add]
theorem greedy_eq (w : Wf x.tree.up) (hf : x.fire < x.n) : x.greedy = gr x.tree.up x.n x.fire x.each x.n (kids x.tree.up x.n x.fire [x.fire]) ∧ x.kept x.greedy = sm (sz x.tree.up x.n x.fire) x.greedy := by
  obtain ⟨h1, h2, h3⟩ := greedy_is w hf x.each x.n 1 [] ahead0
  rw [level_first w hf] at h1 h2
  rw [List.nil_append] at h1
  refine ⟨h1, ?_⟩
  show keptBy x.paths (greedyFrom x.paths x.each x.n 1 []) = _
  rw [keptBy_eq w hf h3]
  show cov x.tree.up x.n x.fire (greedyFrom x.paths x.each x.n 1 []) = sm _ (greedyFrom x.paths x.each x.n 1 [])
  rw [h2, cov_nil, h1, Nat.zero_add]
end
end FS

set_option maxRecDepth 100000
set_option maxHeartbeats 4000000
namespace FS
open Su121 (Abs)
/-! # How the ways are found, place by place; the sizes, from the end on; what lies beyond -/
/-- the order so far: the fire first, each one behind the one that's next on its way; all those next to the first at_ -/
structure Bfs (up : List Nat) (n f : Nat) (o : List Nat) (at_ : Nat) : Prop where
  pl : Pl n o
  head : ∃ r, o = f :: r
  al : at_ ≤ o.length
  mem : ∀ q, q < n → q ≠ f → (q ∈ o ↔ tow up f q ∈ o.take at_)
  topo : ∀ pre q post, o = pre ++ q :: post → q = f ∨ tow up f q ∈ pre
section
variable {up : List Nat} {n f : Nat} {o : List Nat} {at_ : Nat}
theorem Bfs.f_mem (b : Bfs up n f o at_) : f ∈ o := by
  obtain ⟨r, e⟩ := b.head
  rw [e]
  exact List.mem_cons_self ..
theorem bfs_start (hf : f < n) : Bfs up n f [f] 0 := by
  refine ⟨⟨List.nodup_cons.mpr ⟨List.not_mem_nil, List.nodup_nil⟩, fun p hp => by rw [List.mem_singleton.mp hp]; exact hf⟩, ⟨[], rfl⟩, Nat.zero_le _, fun q hq ne => ⟨fun h => absurd (List.mem_singleton.mp h) ne, fun h => absurd h List.not_mem_nil⟩, fun pre q post e => ?_⟩
  cases pre with
  | nil =>
    injection e with e1 e2
    exact .inl e1.symm
  | cons a pre =>
    have := congrArg List.length e
    simp at this
theorem take_at {o : List Nat} {i p : Nat} (h : o[i]? = some p) : o.take (i + 1) = o.take i ++ [p] := by
  rw [List.take_add_one, h]
  rfl
theorem bfs_step (hf : f < n) (b : Bfs up n f o at_) {p : Nat} (hp : o[at_]? = some p) : Bfs up n f (o ++ kids up n f [p]) (at_ + 1) := by
  have al : at_ < o.length := (List.getElem?_eq_some_iff.mp hp).1
  have nin : p ∉ o.take at_ := fun z => by
    have hd : o.drop at_ = p :: o.drop (at_ + 1) := by
      rw [List.drop_eq_getElem_cons al]
      congr 1
      exact (List.getElem?_eq_some_iff.mp hp).2
    have e : o = o.take at_ ++ p :: o.drop (at_ + 1) := by rw [← hd, List.take_append_drop]
    have nd := b.pl.nd
    rw [e] at nd
    exact (List.nodup_append.mp nd).2.2 p z p (List.mem_cons_self ..) rfl
  have dj : ∀ q ∈ kids up n f [p], q ∉ o := fun q hq z => by
    obtain ⟨h1, h2, h3⟩ := mem_kids.mp hq
    have := (b.mem q h1 h2).mp z
    rw [List.mem_singleton.mp h3] at this
    exact nin this
  have po : p ∈ o := List.mem_of_getElem? hp
  refine ⟨⟨List.nodup_append.mpr ⟨b.pl.nd, kids_nd, fun a ha c hc e => dj c hc (e ▸ ha)⟩, fun q hq => ?_⟩, ?_, by rw [List.length_append]; omega, fun q hq ne => ?_, fun pre q post e => ?_⟩
  · rcases List.mem_append.mp hq with h | h
    · exact b.pl.lt q h
    · exact kids_lt q h
  · obtain ⟨r, e⟩ := b.head
    exact ⟨r ++ kids up n f [p], by rw [e]; rfl⟩
  · rw [List.take_append_of_le_length (by omega), take_at hp, List.mem_append, List.mem_append, b.mem q hq ne, mem_kids, List.mem_singleton]
    exact ⟨fun h => h.imp id fun h => h.2.2, fun h => h.imp id fun h => ⟨hq, ne, h⟩⟩
  · rcases List.append_eq_append_iff.mp e with ⟨c, a1, a2⟩ | ⟨c, a1, a2⟩
    · have hq : q ∈ kids up n f [p] := by rw [a2]; exact List.mem_append_right _ (List.mem_cons_self ..)
      obtain ⟨h1, h2, h3⟩ := mem_kids.mp hq
      rw [List.mem_singleton.mp h3]
      exact .inr (by rw [a1]; exact List.mem_append_left _ po)
    · cases c with
      | nil =>
        rw [List.append_nil] at a1
        rw [List.nil_append] at a2
        have hq : q ∈ kids up n f [p] := by rw [← a2]; exact List.mem_cons_self ..
        obtain ⟨h1, h2, h3⟩ := mem_kids.mp hq
        rw [List.mem_singleton.mp h3]
        exact .inr (by rw [← a1]; exact po)
      | cons y c =>
        rw [List.cons_append] at a2
        injection a2 with a2 a3
        subst a2
        exact b.topo pre q c a1
theorem Bfs.all (hf : f < n) (b : Bfs up n f o at_) (h : at_ = o.length) : ∀ (k q : Nat), dd up f q ≤ k → q < n → q ∈ o
  | 0, q, hd, hq => by
    rw [dep_zero (up := up) (show dd up f q = 0 by omega)]
    exact b.f_mem
  | k + 1, q, hd, hq => by
    by_cases ne : q = f
    · rw [ne]; exact b.f_mem
    have td := tow_dep (up := up) ne
    refine (b.mem q hq ne).mpr ?_
    rw [h, List.take_length]
    exact Bfs.all hf b h k _ (by omega) (tow_lt ne hf hq)
/-- what the ways are in the end -/
structure Ord (up : List Nat) (n f : Nat) (o : List Nat) : Prop where
  pl : Pl n o
  head : ∃ r, o = f :: r
  all : ∀ q, q < n → q ∈ o
  topo : ∀ pre q post, o = pre ++ q :: post → q = f ∨ tow up f q ∈ pre
theorem Bfs.ord (hf : f < n) (b : Bfs up n f o at_) (h : at_ = o.length) : Ord up n f o := ⟨b.pl, b.head, fun q hq => b.all hf h _ q (Nat.le_refl _) hq, b.topo⟩
theorem Bfs.len (b : Bfs up n f o at_) : o.length ≤ n := by
  have s : o ⊆ List.range n := fun q hq => List.mem_range.mpr (b.pl.lt q hq)
  have := b.pl.nd.length_le_of_subset s
  rwa [List.length_range] at this
theorem Ord.perm (b : Ord up n f o) : o.Perm (List.range n) := (List.perm_ext_iff_of_nodup b.pl.nd List.nodup_range).mpr fun q => ⟨fun h => List.mem_range.mpr (b.pl.lt q h), fun h => b.all q (List.mem_range.mp h)⟩
/-- who of those joined with p is further -/
theorem kid_iff {a : Su115.Abs} (w : Wf a.up) {p q : Nat} (hp : p < a.n) : (q ∈ a.near p ∧ (p = f ∨ q ≠ tow a.up f p)) ↔ q ∈ kids a.up a.n f [p] := by
  rw [near_iff w hp, mem_kids, List.mem_singleton]
  constructor
  · rintro ⟨⟨h1, ad⟩, h2⟩
    have dq := dd_adj ad f
    have up1 : dd a.up q f = dd a.up p f + 1 := by
      rcases dq with z | z
      · exfalso
        have ne : p ≠ f := fun e => by rw [e, dd_self] at z; omega
        exact (h2.resolve_left ne) (tow_eq ne ad z).symm
      · exact z
    have ne : q ≠ f := fun e => by rw [e, dd_self] at up1; omega
    exact ⟨h1, ne, tow_eq ne ad.symm up1.symm⟩
  · rintro ⟨h1, ne, h2⟩
    have t := tow_spec (up := a.up) ne
    rw [h2] at t
    refine ⟨⟨h1, t.1.symm⟩, ?_⟩
    by_cases e : p = f
    · exact .inl e
    · right
      intro z
      have t2 := tow_spec (up := a.up) e
      rw [← z] at t2
      omega
theorem near_filter {a : Su115.Abs} (w : Wf a.up) {p : Nat} (hp : p < a.n) : (a.near p).filter (fun q => decide (p = f) || decide (q ≠ tow a.up f p)) = kids a.up a.n f [p] := by
  have key := fun q => kid_iff (f := f) w hp (q := q)
  unfold Su115.Abs.near Su115.Abs.ps kids at key ⊢
  rw [List.filter_filter]
  refine List.filter_congr fun q hq => ?_
  have k := key q
  rw [List.mem_filter, List.mem_filter] at k
  rw [Bool.eq_iff_iff, Bool.and_eq_true, Bool.or_eq_true, decide_eq_true_eq, decide_eq_true_eq]
  exact ⟨fun h => (k.mp ⟨⟨hq, h.2⟩, h.1⟩).2, fun h => ⟨(k.mpr ⟨hq, h⟩).2, (k.mpr ⟨hq, h⟩).1.2⟩⟩
/-! ### the sizes from the order's end on -/
noncomputable def acc (up : List Nat) (n f : Nat) (post : List Nat) (q : Nat) : Nat := 1 + sm (sz up n f) (post.filter fun c => decide (tow up f c = q))
theorem acc_nil (q : Nat) : acc up n f [] q = 1 := rfl
theorem acc_cons (p : Nat) (post : List Nat) (q : Nat) : acc up n f (p :: post) q = acc up n f post q + if tow up f p = q then sz up n f p else 0 := by
  unfold acc
  rw [List.filter_cons]
  by_cases h : tow up f p = q
  · rw [if_pos (decide_eq_true h), if_pos h, sm_cons]; omega
  · rw [if_neg (by simpa using h), if_neg h]; omega
theorem acc_is (hf : f < n) {p : Nat} (hp : p < n) {post : List Nat} (nd : post.Nodup) (hb : ∀ c ∈ post, c < n ∧ c ≠ f) (hk : ∀ c ∈ kids up n f [p], c ∈ post) : acc up n f post p = sz up n f p := by
  rw [← kids_one hf hp]
  unfold acc
  have pm : (post.filter fun c => decide (tow up f c = p)).Perm (kids up n f [p]) := (List.perm_ext_iff_of_nodup (nd.sublist List.filter_sublist) kids_nd).mpr fun c => by
    rw [List.mem_filter, decide_eq_true_eq, mem_kids, List.mem_singleton]
    exact ⟨fun h => ⟨(hb c h.1).1, (hb c h.1).2, h.2⟩, fun h => ⟨hk c (mem_kids.mpr ⟨h.1, h.2.1, List.mem_singleton.mpr h.2.2⟩), h.2.2⟩⟩
  rw [sm_perm pm]
  omega
/-- those next to p stand behind it -/
theorem Ord.kids_behind (b : Ord up n f o) {pre post : List Nat} {p : Nat} (e : o = pre ++ p :: post) : ∀ c ∈ kids up n f [p], c ∈ post := fun c hc => by
  obtain ⟨h1, h2, h3⟩ := mem_kids.mp hc
  have h3 := List.mem_singleton.mp h3
  have mo := b.all c h1
  obtain ⟨l, r, e2⟩ := List.append_of_mem mo
  have tl := (b.topo l c r e2).resolve_left h2
  rw [h3] at tl
  have nd := b.pl.nd
  rw [e] at mo
  rcases List.mem_append.mp mo with m | m
  · exfalso
    obtain ⟨l2, r2, e3⟩ := List.append_of_mem m
    have e4 : o = l2 ++ c :: (r2 ++ p :: post) := by rw [e, e3]; simp
    have tl2 := (b.topo _ _ _ e4).resolve_left h2
    rw [h3] at tl2
    rw [e, e3] at nd
    exact (List.nodup_append.mp nd).2.2 p (List.mem_append_left _ tl2) p (List.mem_cons_self ..) rfl
  · cases m with
    | head =>
      have := tow_dep (up := up) h2
      rw [h3] at this
      omega
    | tail _ m => exact m
/-! ### what lies beyond, walked in that order -/
def byd (up : List Nat) (f : Nat) (s : List Nat) (p : Nat) : Bool := s.any fun q => decide (On up f p q)
theorem byd_f (s : List Nat) : byd up f s f = s.contains f := by
  unfold byd
  rw [Bool.eq_iff_iff, List.any_eq_true, List.contains_iff_mem]
  constructor
  · rintro ⟨q, h1, h2⟩
    rw [decide_eq_true_eq, on_f] at h2
    rwa [← h2]
  · exact fun h => ⟨f, h, decide_eq_true (on_end _ _)⟩
theorem byd_tow (s : List Nat) {p : Nat} (ne : p ≠ f) : byd up f s p = (s.contains p || byd up f s (tow up f p)) := by
  unfold byd
  rw [Bool.eq_iff_iff, List.any_eq_true, Bool.or_eq_true, List.any_eq_true, List.contains_iff_mem]
  constructor
  · rintro ⟨q, h1, h2⟩
    rw [decide_eq_true_eq, on_tow ne] at h2
    rcases h2 with z | z
    · rw [← z]; exact .inl h1
    · exact .inr ⟨q, h1, decide_eq_true z⟩
  · rintro (h | ⟨q, h1, h2⟩)
    · exact ⟨p, h, decide_eq_true (on_end _ _)⟩
    · rw [decide_eq_true_eq] at h2
      exact ⟨q, h1, decide_eq_true ((on_tow ne).mpr (.inr h2))⟩
theorem byd_count (b : Ord up n f o) (s : List Nat) : (o.filter (byd up f s)).length = cov up n f s := by
  unfold cov
  exact (b.perm.filter _).length_eq
end
end FS

set_option maxRecDepth 100000
set_option maxHeartbeats 4000000
/-! # Rules that the layer lacks: a call of what an expression gives; written dicts with whole numbers for keys; fields -/
namespace FS
open PySem PySem.Spec PyProof.Rows L2 Evl
section
variable {X : Cx} {k : Nat} {fe e : Expr} {es : List Expr} {pos : Pos} {tf : TE} {t : TA}
/-- f(e, ..) where an expression gives f: one of several defs, the promise goes with the address -/
def tCallE (S : Addr → Sp → Prop) (tf : TE) (t : TA) : TE := fun σ H Q => tf σ H fun y H1 => ∃ f sp, y = .ref f ∧ S f sp ∧ t σ H1 fun vs H2 => sp vs H2 Q (fun _ _ _ => False)
theorem pe_callE {S : Addr → Sp → Prop} (A : ∀ f sp, S f sp → Held X.prog X.w X.K X.mg X.base k f sp) (hr : Room k X.A) (hf : PE X fe tf) (ha : PA X (e :: es) t)
    (ht : eval (.Call fe (e :: es) [] pos) X.env = (do callWith pos (← eval fe X.env) [] (backTo pos (starEach (e :: es) X.env)) (backToKw pos (keywordEach [] X.env))) := by rfl)
    (he : starEach (e :: es) X.env = (false, eval e X.env) :: starEach es X.env := by rfl) (hpl : (backTo pos (starEach es X.env)).any (·.1) = false := by rfl) : PE X (.Call fe (e :: es) [] pos) (tCallE S tf t) := by
  refine ⟨fun pins s σ H Q I h => ?_⟩
  refine Call_ (thn (hf.run pins s σ H _ I h) fun u s1 ⟨y, H1, I1, ry, f, sp, ey, hS, q⟩ => ?_) ht
  subst ey
  obtain rfl : u = Value.ref f := ry
  obtain ⟨fd, ps, F, hk, hb⟩ := (A f sp hS).ex
  refine PySem.W.callWith_K (h₀ := X.base) I.ok.mod.kin hk (thn (ha.run pos pins s1 σ H1 _ I1 q) fun us s2 ⟨vs, H2, I2, r, q2⟩ => ⟨I2.kIn, ?_⟩) he hpl
  exact run_fn (E := fun _ _ _ => False) (dvs := []) (ds := []) F hr hb .nil (fun _ _ _ _ _ _ _ z => z.elim) I2 r (by rw [List.append_nil]; exact q2)
end
/-! ### a written dict whose keys are whole numbers -/
structure KDI (P : Program) (w : World) (K : PySem.W.Frag) (d : Addr) (kvs : List (L2.Key × Value)) : Prop where
  ex : ∃ es n, K.lookup d = some ⟨.type "dict", none, .dict es n, #[]⟩ ∧ KeysOf (mixKind P w) es ∧ Pairs (mixKind P w) es.toList kvs
  low : (d == sysModules) = false
  nd : (kvs.map (·.1)).Nodup
section
variable {X : Cx} {d : Addr} {kvs : List (L2.Key × Value)}
theorem KDI.dictOf {pins : List (Addr × Obj)} {σ : L2.St} {H : Hp} {s : Shared} (D : KDI X.prog X.w X.K d kvs) (I : Inv X pins σ H s) : s.heap.DictOf (mixKind X.prog X.w) d kvs := by
  obtain ⟨es, n, hl, h1, h2⟩ := D.ex
  exact ⟨_, es, n, I.kIn _ _ hl, ⟨rfl, rfl, rfl⟩, rfl, h1, h2, D.nd⟩
def rInKD (neg : Bool) (d : Addr) (kvs : List (L2.Key × Value)) : R2 := fun x y H Q => ∃ k, x = kV k ∧ y = .ref d ∧ Q (.bl (if neg then !(valueAt kvs k).isSome else (valueAt kvs k).isSome)) H
def rIxKD (d : Addr) (kvs : List (L2.Key × Value)) : R2 := fun x y H Q => ∃ k u0 v0, x = .ref d ∧ y = kV k ∧ valueAt kvs k = some u0 ∧ RelV v0 u0 ∧ Q v0 H
theorem kdi_of {P : Program} {w : World} {K : PySem.W.Frag} {n : Nat} (l : List (Int × Tok × Value)) (h : K.lookup d = some ⟨.type "dict", none, .dict (l.map fun p => (⟨p.1, .int p.1 p.2.1, p.2.2⟩ : DictEntry)).toArray n, #[]⟩)
    (hl : (l.map (·.1)).all (fun i => hashInt i == i) = true) (low : (d == sysModules) = false) (nd : (l.map (·.1)).Nodup) : KDI P w K d (l.map fun p => ((.inl p.1 : L2.Key), p.2.2)) := by
  refine ⟨⟨_, n, h, fun e he => ?_, ?_⟩, low, ?_⟩
  · obtain ⟨p, hp, rfl⟩ := List.mem_map.mp (List.mem_toArray.mp he)
    refine ⟨.inl p.1, keyIs_int p.1 p.2.1, ?_⟩
    have := List.all_eq_true.mp hl p.1 (List.mem_map.mpr ⟨p, hp, rfl⟩)
    exact (beq_iff_eq.mp this).symm
  · rw [List.toList_toArray]
    clear h hl nd low
    induction l with
    | nil => exact .nil
    | cons p l ih => exact .cons (keyIs_int p.1 p.2.1) rfl ih
  · rw [List.map_map]
    have e : (fun p : Int × Tok × Value => (Sum.inl p.1 : L2.Key)) = Sum.inl ∘ (·.1) := rfl
    show (l.map fun p => (Sum.inl p.1 : L2.Key)).Nodup
    rw [e, ← List.map_map]
    exact List.Pairwise.map _ (fun a b (hab : a ≠ b) q => hab (Sum.inl.inj q)) nd
theorem op_in_kdi (D : KDI X.prog X.w X.K d kvs) : OpR X (compareOp .In) (rInKD false d kvs) := by
  intro pins s σ H x y v u Q I rx ry h
  obtain ⟨k, rfl, rfl, q⟩ := h
  cases ry
  exact wpAny_in_of (kV_is rx) D.low (D.dictOf I).mapOf ⟨.bl _, H, I.tok _, rfl, q⟩
theorem op_notIn_kdi (D : KDI X.prog X.w X.K d kvs) : OpR X (compareOp .NotIn) (rInKD true d kvs) := by
  intro pins s σ H x y v u Q I rx ry h
  obtain ⟨k, rfl, rfl, q⟩ := h
  cases ry
  exact wpAny_notIn_of (kV_is rx) D.low (D.dictOf I).mapOf ⟨.bl _, H, I.tok _, rfl, q⟩
theorem ix_kdi (D : KDI X.prog X.w X.K d kvs) : IxR X (rIxKD d kvs) := by
  intro value slice pins s σ H x y v u Q I rx ry h hs
  obtain ⟨k, u0, v0, rfl, rfl, e, r, q⟩ := h
  obtain rfl : v = Value.ref d := rx
  have dd := D.dictOf I
  exact tail_any dd.typeIs slot_dict_getitem.lookup (wpAny_getItem_of (kV_is ry) dd.mapOf e ⟨v0, H, I.tok _, r, q⟩) hs
end
/-! ### fields of an instance -/
section
variable {K : PySem.W.Frag} {σ : L2.St} {H : Hp} {ta tv : TE} {a C dx : Addr} {fs : List (Str × V)} {f : Str} {v : V} {D : Ends} {tz : TS}
theorem ev_fld (h : Ev ta σ H (.ref a)) (ho : H a = some (.ins C dx fs)) (c : Cls K C) (n : NoAttr K C f) (l : fs.lookup f = some v) : Ev (tFld K ta f) σ H v := fun H1 e Q q =>
  h H1 e _ fun H2 e2 => ⟨a, C, dx, fs, v, rfl, e2 a _ (e a _ ho), c, n, l, q H2 e2⟩
theorem s_fld (hv : Ev tv σ H v) (h : Ev ta σ H (.ref a)) (ho : H a = some (.ins C dx fs)) (c : Cls K C) (n : NoAttr K C f) (hl : fs.length < 1000) (k : ∀ H1, Ex H H1 → D.nx σ (upd H1 a (.ins C dx (putF f v fs)))) : sFld K ta tv f D σ H :=
  hv H (Ex.refl H) _ fun H1 e1 => h H1 e1 _ fun H2 e2 => ⟨a, C, dx, fs, rfl, e2 a _ (e1 a _ ho), c, n, hl, k H2 (e1.trans e2)⟩
theorem s_fldL {xs : List V} (hv : EvL tv σ H xs) (h : Ev ta σ H (.ref a)) (ho : H a = some (.ins C dx fs)) (c : Cls K C) (n : NoAttr K C f) (hl : fs.length < 1000)
    (k : ∀ p H1, H p = none → Ex H H1 → H1 p = some (.lst xs) → D.nx σ (upd H1 a (.ins C dx (putF f (.ref p) fs)))) : sFld K ta tv f D σ H :=
  hv H (Ex.refl H) _ fun p H1 hp e1 h1 => h H1 e1 _ fun H2 e2 => ⟨a, C, dx, fs, rfl, e2 a _ (e1 a _ ho), c, n, hl, k p H2 hp (e1.trans e2) (e2 p _ h1)⟩
theorem q_fld (hv : Ev tv σ H v) (h : Ev ta σ H (.ref a)) (ho : H a = some (.ins C dx fs)) (c : Cls K C) (n : NoAttr K C f) (hl : fs.length < 1000) (k : ∀ H1, Ex H H1 → tz D σ (upd H1 a (.ins C dx (putF f v fs)))) : tSeq (sFld K ta tv f) tz D σ H :=
  s_fld (D := { D with nx := tz D }) hv h ho c n hl k
theorem q_fldL {xs : List V} (hv : EvL tv σ H xs) (h : Ev ta σ H (.ref a)) (ho : H a = some (.ins C dx fs)) (c : Cls K C) (n : NoAttr K C f) (hl : fs.length < 1000)
    (k : ∀ p H1, H p = none → Ex H H1 → H1 p = some (.lst xs) → tz D σ (upd H1 a (.ins C dx (putF f (.ref p) fs)))) : tSeq (sFld K ta tv f) tz D σ H :=
  s_fldL (D := { D with nx := tz D }) hv h ho c n hl k
theorem lk_here {k : Str} {v : V} {r : List (Str × V)} : List.lookup k ((k, v) :: r) = some v := by
  have e : (k == k) = true := beq_self_eq_true k
  simp only [List.lookup, e]
theorem lk_past {k g : Str} {v : V} {r : List (Str × V)} (h : (k == g) = false) : List.lookup k ((g, v) :: r) = List.lookup k r := by
  simp only [List.lookup, h]
theorem put_here {f : Str} {v x : V} {r : List (Str × V)} : putF f v ((f, x) :: r) = (f, v) :: r := if_pos rfl
theorem put_past {f g : Str} {v x : V} {r : List (Str × V)} (h : ¬ g = f) : putF f v ((g, x) :: r) = (g, x) :: putF f v r := if_neg h
end
/-! ### a def of the module and how its arguments bind; a class's __init__ -/
structure Has (K : PySem.W.Frag) (mg : Str → Option Value) (x : Str) (st : Stmt) (ps : List Str) : Prop where
  ex : ∃ f fd, C8.Def K mg x st f fd ∧ Binds K fd ps []
structure HasInit (K : PySem.W.Frag) (mg : Str → Option Value) (x : Str) (C : Addr) (qual : Str) (st : Stmt) (ps : List Str) : Prop where
  ex : ∃ f fd, Mk K C f ∧ C8.Fun K "__init__" qual st f fd ∧ Binds K fd ps []
section
variable {X : Cx} {k j : Nat} {C : Addr} {x : Str} {sp : Sp} {dvs : List V} {p pos : Pos}
theorem pe_mk0 (c : C8.Mak X.prog X.w X.K X.mg X.base k x C sp dvs) (hr : Room j X.A) (hk : k + 1 ≤ j) (hg : Gl X x) (hdb : (x == ("__debug__" : Str)) = false := by decide) :
    PE X (.Call (.Name x p) [] [] pos) (tMake C sp dvs E0 tNil) := by
  obtain ⟨f, fd, ps, ds, M, F, hm, b, d⟩ := c.ex
  exact pe_make0 M F (hr.mono hk) hg hm b d pass0 hdb
/-- a def called by its name, by its address -/
theorem held_of {P : Program} {w : World} {K : PySem.W.Frag} {mg : Str → Option Value} {base : Heap} {k j : Nat} {x : Str} {sp : Sp} {f : Addr} (c : C8.Cal P w K mg base k x sp []) (hm : mg x = some (.ref f)) (h : k ≤ j) : Held P w K mg base j f sp := by
  obtain ⟨g, fd, ps, ds, F, hg, hk, b, d⟩ := c.ex
  rw [hm] at hg
  cases hg
  cases d
  exact ⟨fd, ps, F.mono h, hk, b⟩
end
def topS (i : Nat) : Stmt := PySem.Challenge.pw_firesaved_s01_answers.main.body.getD i (.Pass ⟨0, 0, 0, 0⟩)
/-! ### more of what evaluates to what -/
section
variable {K : PySem.W.Frag} {σ : L2.St} {H : Hp} {ta tb te tl : TE} {t : TT} {a : Addr} {j : Nat} {vs : List Nat}
theorem given_all (n : Nat) (v : Nat → V) : given n (fun _ => true) v = (List.range n).map v := by
  unfold given
  rw [List.filter_eq_self.mpr fun _ _ => rfl]
theorem range_map_get {α β : Type} (l : List α) (d : α) (g : α → β) : (List.range l.length).map (fun i => g (l.getD i d)) = l.map g := by
  apply List.ext_getElem?
  intro i
  rw [List.getElem?_map, List.getElem?_map]
  by_cases h : i < l.length
  · rw [List.getElem?_range h, List.getElem?_eq_getElem h]
    show some (g (l.getD i d)) = some (g l[i])
    rw [List.getD_eq_getElem?_getD, List.getElem?_eq_getElem h]
    rfl
  · rw [List.getElem?_eq_none (by rw [List.length_range]; omega), List.getElem?_eq_none (by omega)]
    rfl
theorem get_map_int {ns : List Int} {i : Nat} {x : V} (h : (ns.map V.int)[i]? = some x) : ∃ z, ns[i]? = some z ∧ x = V.int z := by
  rw [List.getElem?_map] at h
  cases e : ns[i]? with
  | none => rw [e] at h; cases h
  | some z => rw [e] at h; exact ⟨z, rfl, (Option.some.inj h).symm⟩
theorem getD_of {α : Type} {l : List α} {i : Nat} {z d : α} (h : l[i]? = some z) : l.getD i d = z := by
  rw [List.getD_eq_getElem?_getD, h]
  rfl
theorem el_lcMap {ns : List Int} (g : Int → V) (h : Ev tl σ H (.ref a)) (hx : SqL K H a (ns.map V.int)) (hz : ns.length ≤ 40000) (hw : ∀ x, wipe ((wipe σ vs).set j (some x)) vs = wipe σ vs)
    (he : ∀ z H1, z ∈ ns → Ex H H1 → Ev te ((wipe σ vs).set j (some (.int z))) H1 (g z)) : EvL (tLc (iList K tl) (gName j) tYes te vs) σ H (ns.map g) := by
  have q := el_lcL (K := K) (t := tYes) (te := te) (fun _ => true) (fun i => g (ns.getD i 0)) h hx (by rw [List.length_map]; exact hz) hw
    (fun i x H1 e hi H2 e2 Q q => q H2 (Ex.refl _)) (fun i x H1 e hi _ => by
      obtain ⟨z, hz, rfl⟩ := get_map_int hi
      rw [getD_of hz]
      exact he z H1 (List.mem_of_getElem? hz) e)
  rw [given_all, List.length_map, range_map_get] at q
  exact q
/-- over a list with a test -/
theorem given_get {ns : List Int} (f : Int → Bool) (v : Int → V) : given ns.length (fun i => f (ns.getD i 0)) (fun i => v (ns.getD i 0)) = (ns.filter f).map v := by
  unfold given
  induction ns with
  | nil => rfl
  | cons x r ih =>
    have e1 : ((fun i => f ((x :: r).getD i 0)) ∘ Nat.succ) = fun i => f (r.getD i 0) := rfl
    have e2 : ((fun i => v ((x :: r).getD i 0)) ∘ Nat.succ) = fun i => v (r.getD i 0) := rfl
    rw [List.length_cons, List.range_succ_eq_map, List.filter_cons, List.filter_map, e1, List.filter_cons]
    have e3 : f ((x :: r).getD 0 0) = f x := rfl
    rw [e3]
    by_cases h : f x = true
    · rw [if_pos h, if_pos h, List.map_cons, List.map_cons, List.map_map, e2, ih]
      rfl
    · rw [if_neg h, if_neg h, List.map_map, e2, ih]
theorem el_lcFil {ns : List Int} (f : Int → Bool) (g : Int → V) (h : Ev tl σ H (.ref a)) (hx : SqL K H a (ns.map V.int)) (hz : ns.length ≤ 40000) (hw : ∀ x, wipe ((wipe σ vs).set j (some x)) vs = wipe σ vs)
    (ht : ∀ z H1, z ∈ ns → Ex H H1 → EvT t ((wipe σ vs).set j (some (.int z))) H1 (f z)) (he : ∀ z H1, z ∈ ns → Ex H H1 → f z = true → Ev te ((wipe σ vs).set j (some (.int z))) H1 (g z)) : EvL (tLc (iList K tl) (gName j) t te vs) σ H ((ns.filter f).map g) := by
  have q := el_lcL (K := K) (t := t) (te := te) (fun i => f (ns.getD i 0)) (fun i => g (ns.getD i 0)) h hx (by rw [List.length_map]; exact hz) hw
    (fun i x H1 e hi => by
      obtain ⟨z, hz, rfl⟩ := get_map_int hi
      rw [getD_of hz]
      exact ht z H1 (List.mem_of_getElem? hz) e) (fun i x H1 e hi hf => by
      obtain ⟨z, hz, rfl⟩ := get_map_int hi
      rw [getD_of hz] at hf ⊢
      exact he z H1 (List.mem_of_getElem? hz) e hf)
  rw [List.length_map, given_get] at q
  exact q
theorem ev_any {bs : List Bool} (h : EvL te σ H (bs.map V.bl)) : Ev (tCB (rAny K) (tCons te tNil)) σ H (.bl (bs.any id)) := fun H1 e Q q =>
  h H1 e _ fun p H2 hp e2 h2 => ⟨p, bs, rfl, sq_of h2, q H2 e2⟩
theorem ev_all {bs : List Bool} (h : EvL te σ H (bs.map V.bl)) : Ev (tCB (rAll K) (tCons te tNil)) σ H (.bl (bs.all id)) := fun H1 e Q q =>
  h H1 e _ fun p H2 hp e2 h2 => ⟨p, bs, rfl, sq_of h2, q H2 e2⟩
theorem ev_inL {p : Addr} {xs : List V} {x : V} (hx : Ev ta σ H x) (hb : Ev tb σ H (.ref p)) (h : SqL K H p xs) (hf : flatV x = true) (ha : xs.all flatV = true) : Ev (tOp (rIn K false) ta tb) σ H (.bl (inV x xs)) := ev_op hx hb (rv_isL h hf ha)
theorem ev_niL {p : Addr} {xs : List V} {x : V} (hx : Ev ta σ H x) (hb : Ev tb σ H (.ref p)) (h : SqL K H p xs) (hf : flatV x = true) (ha : xs.all flatV = true) : Ev (tOp (rIn K true) ta tb) σ H (.bl (!inV x xs)) := ev_op hx hb (rv_niL h hf ha)
theorem ev_inT {p : Addr} {xs : List V} {x : V} (hx : Ev ta σ H x) (hb : Ev tb σ H (.ref p)) (h : SqT K H p xs) (hf : flatV x = true) (ha : xs.all flatV = true) : Ev (tOp (rIn K false) ta tb) σ H (.bl (inV x xs)) := ev_op hx hb (rv_isT h hf ha)
theorem ev_orV' {a b : Bool} (h1 : Ev ta σ H (.bl a)) (h2 : Ev tb σ H (.bl b)) : Ev (tOrV ta tb) σ H (.bl (a || b)) := ev_orV h1 fun _ => h2
theorem el_cat {xs ys : List V} {b : Addr} (ha : EvL ta σ H xs) (hb : ∀ H1, Ex H H1 → Ev tb σ H1 (.ref b)) (h : H b = some (.lst ys)) (hl : xs.length + ys.length ≤ 100000) : EvL (tOp rCat ta tb) σ H (xs ++ ys) := fun H1 e Q q =>
  ha H1 e _ fun p H2 hp e2 h2 => hb H2 (e.trans e2) H2 (Ex.refl _) _ fun H3 e3 => ⟨p, b, xs, ys, rfl, rfl, e3 _ _ h2, e3 _ _ (e2 _ _ (e _ _ h)), sz_of hl, fun l hl => q l _ (fresh_back (e2.trans e3) hl) ((e2.trans e3).trans (Ex.new hl)) upd_same⟩
theorem flat_ints (ns : List Int) : (ns.map V.int).all flatV = true := by
  rw [List.all_eq_true]
  intro x hx
  obtain ⟨z, _, rfl⟩ := List.mem_map.mp hx
  rfl
theorem inV_ints (z : Int) : ∀ ns : List Int, inV (.int z) (ns.map V.int) = decide (z ∈ ns)
  | [] => by rfl
  | n :: r => by
    have ih := inV_ints z r
    show (eqV (.int n) (.int z) || inV (.int z) (r.map V.int)) = _
    rw [ih, Bool.eq_iff_iff]
    show ((n == z) || decide (z ∈ r)) = true ↔ _
    rw [Bool.or_eq_true, beq_iff_eq, decide_eq_true_eq, decide_eq_true_eq, List.mem_cons]
    exact or_congr eq_comm Iff.rfl
end
/-! ### xs[i], for xs[i] += e; len of a dict -/
theorem get_list {X : Cx} : PGet X (rIxL X.K) := by
  intro pins s σ H x y v u Q I rx ry h
  obtain ⟨p, xs, i, z, rfl, rfl, hq, he, q⟩ := h
  cases rx
  obtain ⟨t, rfl⟩ := ry
  obtain ⟨its, r, pl, hz⟩ := I.list hq
  obtain ⟨j, h1, h2, h3, h4, h5⟩ := atI_get he
  obtain ⟨w, ew, rw'⟩ := r.get h2
  have hl := r.length
  have hn := line63
  have fin : EP X pins σ Q w s := ⟨z, H, I, rw', q⟩
  by_cases h0 : 0 ≤ i
  · have hj : i.toNat = j := by
      rw [seqIndex_of h0 h5] at h1
      exact Option.some.inj h1
    exact wpAny_getItem_list (x := w) pl.isList h0 (by omega) (by rw [hj]; simpa using ew) fin
  · have hj : (i + (its.toArray.size : Int)).toNat = j := by
      rw [seqIndex_neg (by omega) h4] at h1
      rw [List.size_toArray, ← hl]
      exact Option.some.inj h1
    exact wpAny_getItem_list_neg (x := w) pl.isList (by omega) (by rw [List.size_toArray] <;> omega) (by omega) (by rw [hj]; simpa using ew) fin
def rLenD : List V → Hp → VK → Prop := fun xs H Q => ∃ a kvs, xs = [V.ref a] ∧ H a = some (.dK kvs) ∧ Q (.int kvs.length) H
end FS

set_option maxRecDepth 100000
set_option maxHeartbeats 4000000
namespace FS
open PySem PySem.Spec PyProof.Rows L2 Evl NdefX
/-- where what the top has written lies -/
structure Locs where
  C_Ways : Addr
  C_Session : Addr
  cod : Addr
  tab : Addr
  a_PLAIN_CALLS : Addr
  a_NUMBER_CALLS : Addr
  a_PLAIN_QUESTIONS : Addr
  a_NUMBER_QUESTIONS : Addr
  a_ROW_QUESTIONS : Addr
  f_neighbours : Addr
  f_ways_to : Addr
  f_further : Addr
  f_count_beyond : Addr
  f_first_front : Addr
  f_front_behind : Addr
  f_choices : Addr
  f_count_kept : Addr
  f_best_from : Addr
  f_best_row : Addr
  f_greatest_first : Addr
  f_put_fire_back : Addr
  f_is_place : Addr
  f_is_under_way : Addr
  f_catches : Addr
  f_gone_on : Addr
  f_counted : Addr
  f_begin : Addr
  f_join : Addr
  f_drop : Addr
  f_fire : Addr
  f_each : Addr
  f_save : Addr
  f_turn : Addr
  f_again : Addr
  f_burns : Addr
  f_saved : Addr
  f_safe : Addr
  f_state : Addr
  f_ways_now : Addr
  f_are_in_range : Addr
  f_at_beginning : Addr
  f_most_kept : Addr
  f_most_by_origin : Addr
  f_best : Addr
  f_greedy : Addr
  f_run : Addr
  f_size : Addr
  f_deep : Addr
  f_level : Addr
  f_kept : Addr
  f_worst : Addr
  f_from_all : Addr
  f_mores : Addr
  f_end_of_call : Addr
  f_answer_of : Addr
  f_answers : Addr
def kvs_PLAIN_CALLS (L : Locs) : List (L2.Key × Value) := [(.inl 0, .ref L.f_begin), (.inl 2, .ref L.f_drop), (.inl 6, .ref L.f_turn), (.inl 7, .ref L.f_again), (.inl 8, .ref L.f_burns), (.inl 9, .ref L.f_saved), (.inl 10, .ref L.f_safe), (.inl 21, .ref L.f_state)]
def kvs_NUMBER_CALLS (L : Locs) : List (L2.Key × Value) := [(.inl 1, .ref L.f_join), (.inl 3, .ref L.f_fire), (.inl 4, .ref L.f_each), (.inl 5, .ref L.f_save)]
def kvs_PLAIN_QUESTIONS (L : Locs) : List (L2.Key × Value) := [(.inl 11, .ref L.f_best), (.inl 12, .ref L.f_greedy), (.inl 18, .ref L.f_worst), (.inl 19, .ref L.f_from_all), (.inl 20, .ref L.f_mores)]
def kvs_NUMBER_QUESTIONS (L : Locs) : List (L2.Key × Value) := [(.inl 14, .ref L.f_size), (.inl 15, .ref L.f_deep), (.inl 16, .ref L.f_level)]
def kvs_ROW_QUESTIONS (L : Locs) : List (L2.Key × Value) := [(.inl 13, .ref L.f_run), (.inl 17, .ref L.f_kept)]
structure Txt (K : PySem.W.Frag) (mg : Str → Option Value) (L : Locs) : Prop where
  cl_Ways : Cls K L.C_Ways
  g_Ways : mg "Ways" = some (.ref L.C_Ways)
  a_Ways_toward : NoAttr K L.C_Ways "toward"
  a_Ways_depths : NoAttr K L.C_Ways "depths"
  a_Ways_sizes : NoAttr K L.C_Ways "sizes"
  a_Ways_order : NoAttr K L.C_Ways "order"
  cl_Session : Cls K L.C_Session
  g_Session : mg "Session" = some (.ref L.C_Session)
  a_Session_joined : NoAttr K L.C_Session "joined"
  a_Session_origin : NoAttr K L.C_Session "origin"
  a_Session_each : NoAttr K L.C_Session "each"
  a_Session_used : NoAttr K L.C_Session "used"
  a_Session_burning : NoAttr K L.C_Session "burning"
  a_Session_saved : NoAttr K L.C_Session "saved"
  n_all : mg "all" = none
  n_any : mg "any" = none
  n_len : mg "len" = none
  n_list : mg "list" = none
  n_min : mg "min" = none
  n_range : mg "range" = none
  n_reversed : mg "reversed" = none
  n_sorted : mg "sorted" = none
  n_sum : mg "sum" = none
  c_NO_SUCH_PLACE : ∃ u, mg "NO_SUCH_PLACE" = some u ∧ RelV (.int (-2)) u
  c_ONLY_ONE : ∃ u, mg "ONLY_ONE" = some u ∧ RelV (.int (-6)) u
  c_UNDER_WAY : ∃ u, mg "UNDER_WAY" = some u ∧ RelV (.int (-16)) u
  c_ALREADY_SO : ∃ u, mg "ALREADY_SO" = some u ∧ RelV (.int (-17)) u
  c_OUT_OF_RANGE : ∃ u, mg "OUT_OF_RANGE" = some u ∧ RelV (.int (-22)) u
  c_TOO_MANY : ∃ u, mg "TOO_MANY" = some u ∧ RelV (.int (-28)) u
  c_IT_BURNS : ∃ u, mg "IT_BURNS" = some u ∧ RelV (.int (-33)) u
  c_MOST_PLACES : ∃ u, mg "MOST_PLACES" = some u ∧ RelV (.int (12)) u
  c_PLAIN_CALLS : ∃ u, mg "PLAIN_CALLS" = some u ∧ RelV (.ref L.a_PLAIN_CALLS) u
  d_PLAIN_CALLS : ∀ P w, KDI P w K L.a_PLAIN_CALLS (kvs_PLAIN_CALLS L)
  c_NUMBER_CALLS : ∃ u, mg "NUMBER_CALLS" = some u ∧ RelV (.ref L.a_NUMBER_CALLS) u
  d_NUMBER_CALLS : ∀ P w, KDI P w K L.a_NUMBER_CALLS (kvs_NUMBER_CALLS L)
  c_PLAIN_QUESTIONS : ∃ u, mg "PLAIN_QUESTIONS" = some u ∧ RelV (.ref L.a_PLAIN_QUESTIONS) u
  d_PLAIN_QUESTIONS : ∀ P w, KDI P w K L.a_PLAIN_QUESTIONS (kvs_PLAIN_QUESTIONS L)
  c_NUMBER_QUESTIONS : ∃ u, mg "NUMBER_QUESTIONS" = some u ∧ RelV (.ref L.a_NUMBER_QUESTIONS) u
  d_NUMBER_QUESTIONS : ∀ P w, KDI P w K L.a_NUMBER_QUESTIONS (kvs_NUMBER_QUESTIONS L)
  c_ROW_QUESTIONS : ∃ u, mg "ROW_QUESTIONS" = some u ∧ RelV (.ref L.a_ROW_QUESTIONS) u
  d_ROW_QUESTIONS : ∀ P w, KDI P w K L.a_ROW_QUESTIONS (kvs_ROW_QUESTIONS L)
  c_NOT_BEGUN : ∃ u, mg "NOT_BEGUN" = some u ∧ RelV (.int (-11)) u
  c_BEGIN : ∃ u, mg "BEGIN" = some u ∧ RelV (.int (0)) u
  g_neighbours : mg "neighbours" = some (.ref L.f_neighbours)
  g_ways_to : mg "ways_to" = some (.ref L.f_ways_to)
  g_further : mg "further" = some (.ref L.f_further)
  g_count_beyond : mg "count_beyond" = some (.ref L.f_count_beyond)
  g_first_front : mg "first_front" = some (.ref L.f_first_front)
  g_front_behind : mg "front_behind" = some (.ref L.f_front_behind)
  g_choices : mg "choices" = some (.ref L.f_choices)
  g_count_kept : mg "count_kept" = some (.ref L.f_count_kept)
  g_best_from : mg "best_from" = some (.ref L.f_best_from)
  g_best_row : mg "best_row" = some (.ref L.f_best_row)
  g_greatest_first : mg "greatest_first" = some (.ref L.f_greatest_first)
  g_put_fire_back : mg "put_fire_back" = some (.ref L.f_put_fire_back)
  g_is_place : mg "is_place" = some (.ref L.f_is_place)
  g_is_under_way : mg "is_under_way" = some (.ref L.f_is_under_way)
  g_catches : mg "catches" = some (.ref L.f_catches)
  g_gone_on : mg "gone_on" = some (.ref L.f_gone_on)
  g_counted : mg "counted" = some (.ref L.f_counted)
  g_begin : mg "begin" = some (.ref L.f_begin)
  g_join : mg "join" = some (.ref L.f_join)
  g_drop : mg "drop" = some (.ref L.f_drop)
  g_fire : mg "fire" = some (.ref L.f_fire)
  g_each : mg "each" = some (.ref L.f_each)
  g_save : mg "save" = some (.ref L.f_save)
  g_turn : mg "turn" = some (.ref L.f_turn)
  g_again : mg "again" = some (.ref L.f_again)
  g_burns : mg "burns" = some (.ref L.f_burns)
  g_saved : mg "saved" = some (.ref L.f_saved)
  g_safe : mg "safe" = some (.ref L.f_safe)
  g_state : mg "state" = some (.ref L.f_state)
  g_ways_now : mg "ways_now" = some (.ref L.f_ways_now)
  g_are_in_range : mg "are_in_range" = some (.ref L.f_are_in_range)
  g_at_beginning : mg "at_beginning" = some (.ref L.f_at_beginning)
  g_most_kept : mg "most_kept" = some (.ref L.f_most_kept)
  g_most_by_origin : mg "most_by_origin" = some (.ref L.f_most_by_origin)
  g_best : mg "best" = some (.ref L.f_best)
  g_greedy : mg "greedy" = some (.ref L.f_greedy)
  g_run : mg "run" = some (.ref L.f_run)
  g_size : mg "size" = some (.ref L.f_size)
  g_deep : mg "deep" = some (.ref L.f_deep)
  g_level : mg "level" = some (.ref L.f_level)
  g_kept : mg "kept" = some (.ref L.f_kept)
  g_worst : mg "worst" = some (.ref L.f_worst)
  g_from_all : mg "from_all" = some (.ref L.f_from_all)
  g_mores : mg "mores" = some (.ref L.f_mores)
  g_end_of_call : mg "end_of_call" = some (.ref L.f_end_of_call)
  g_answer_of : mg "answer_of" = some (.ref L.f_answer_of)
  g_answers : mg "answers" = some (.ref L.f_answers)
abbrev s_Ways_init : Stmt := inClass (topS 1) 0
abbrev N_Ways_init : List Str := ["self", "many", "origin", "p"]
theorem sc_Ways_init : FnScope N_Ways_init ["self", "many", "origin"] (C8.fnScope s_Ways_init) := C8.fnScope_by (by decide +kernel)
abbrev s_neighbours : Stmt := topS 2
abbrev N_neighbours : List Str := ["joined", "p", "q"]
theorem sc_neighbours : FnScope N_neighbours ["joined", "p"] (C8.fnScope s_neighbours) := C8.fnScope_by (by decide +kernel)
abbrev s_ways_to : Stmt := topS 3
abbrev N_ways_to : List Str := ["joined", "origin", "ways", "at", "p", "q"]
theorem sc_ways_to : FnScope N_ways_to ["joined", "origin"] (C8.fnScope s_ways_to) := C8.fnScope_by (by decide +kernel)
abbrev s_further : Stmt := topS 4
abbrev N_further : List Str := ["ways", "places", "q"]
theorem sc_further : FnScope N_further ["ways", "places"] (C8.fnScope s_further) := C8.fnScope_by (by decide +kernel)
abbrev s_count_beyond : Stmt := topS 5
abbrev N_count_beyond : List Str := ["ways", "places", "beyond", "p"]
theorem sc_count_beyond : FnScope N_count_beyond ["ways", "places"] (C8.fnScope s_count_beyond) := C8.fnScope_by (by decide +kernel)
abbrev s_first_front : Stmt := topS 7
abbrev N_first_front : List Str := ["ways"]
theorem sc_first_front : FnScope N_first_front ["ways"] (C8.fnScope s_first_front) := C8.fnScope_by (by decide +kernel)
abbrev s_front_behind : Stmt := topS 8
abbrev N_front_behind : List Str := ["ways", "front", "chosen", "p"]
theorem sc_front_behind : FnScope N_front_behind ["ways", "front", "chosen"] (C8.fnScope s_front_behind) := C8.fnScope_by (by decide +kernel)
abbrev s_choices : Stmt := topS 9
abbrev N_choices : List Str := ["front", "each", "with_first", "others"]
theorem sc_choices : FnScope N_choices ["front", "each"] (C8.fnScope s_choices) := C8.fnScope_by (by decide +kernel)
abbrev s_count_kept : Stmt := topS 10
abbrev N_count_kept : List Str := ["ways", "places", "p"]
theorem sc_count_kept : FnScope N_count_kept ["ways", "places"] (C8.fnScope s_count_kept) := C8.fnScope_by (by decide +kernel)
abbrev s_best_from : Stmt := topS 11
abbrev N_best_from : List Str := ["ways", "each", "front", "most", "best", "chosen", "places"]
theorem sc_best_from : FnScope N_best_from ["ways", "each", "front"] (C8.fnScope s_best_from) := C8.fnScope_by (by decide +kernel)
abbrev s_best_row : Stmt := topS 12
abbrev N_best_row : List Str := ["ways", "each"]
theorem sc_best_row : FnScope N_best_row ["ways", "each"] (C8.fnScope s_best_row) := C8.fnScope_by (by decide +kernel)
abbrev s_greatest_first : Stmt := topS 13
abbrev N_greatest_first : List Str := ["ways", "each", "places", "front", "chosen"]
theorem sc_greatest_first : FnScope N_greatest_first ["ways", "each"] (C8.fnScope s_greatest_first) := C8.fnScope_by (by decide +kernel)
abbrev s_Session_init : Stmt := inClass (topS 23) 0
abbrev N_Session_init : List Str := ["self"]
theorem sc_Session_init : FnScope N_Session_init ["self"] (C8.fnScope s_Session_init) := C8.fnScope_by (by decide +kernel)
abbrev s_put_fire_back : Stmt := topS 24
abbrev N_put_fire_back : List Str := ["session"]
theorem sc_put_fire_back : FnScope N_put_fire_back ["session"] (C8.fnScope s_put_fire_back) := C8.fnScope_by (by decide +kernel)
abbrev s_is_place : Stmt := topS 25
abbrev N_is_place : List Str := ["session", "p"]
theorem sc_is_place : FnScope N_is_place ["session", "p"] (C8.fnScope s_is_place) := C8.fnScope_by (by decide +kernel)
abbrev s_is_under_way : Stmt := topS 26
abbrev N_is_under_way : List Str := ["session"]
theorem sc_is_under_way : FnScope N_is_under_way ["session"] (C8.fnScope s_is_under_way) := C8.fnScope_by (by decide +kernel)
abbrev s_catches : Stmt := topS 27
abbrev N_catches : List Str := ["session", "p", "burning", "q"]
theorem sc_catches : FnScope N_catches ["session", "p", "burning"] (C8.fnScope s_catches) := C8.fnScope_by (by decide +kernel)
abbrev s_gone_on : Stmt := topS 28
abbrev N_gone_on : List Str := ["session", "burning", "p"]
theorem sc_gone_on : FnScope N_gone_on ["session", "burning"] (C8.fnScope s_gone_on) := C8.fnScope_by (by decide +kernel)
abbrev s_counted : Stmt := topS 29
abbrev N_counted : List Str := ["places"]
theorem sc_counted : FnScope N_counted ["places"] (C8.fnScope s_counted) := C8.fnScope_by (by decide +kernel)
abbrev s_begin : Stmt := topS 30
abbrev N_begin : List Str := ["session"]
theorem sc_begin : FnScope N_begin ["session"] (C8.fnScope s_begin) := C8.fnScope_by (by decide +kernel)
abbrev s_join : Stmt := topS 31
abbrev N_join : List Str := ["session", "p"]
theorem sc_join : FnScope N_join ["session", "p"] (C8.fnScope s_join) := C8.fnScope_by (by decide +kernel)
abbrev s_drop : Stmt := topS 32
abbrev N_drop : List Str := ["session"]
theorem sc_drop : FnScope N_drop ["session"] (C8.fnScope s_drop) := C8.fnScope_by (by decide +kernel)
abbrev s_fire : Stmt := topS 33
abbrev N_fire : List Str := ["session", "p", "before"]
theorem sc_fire : FnScope N_fire ["session", "p"] (C8.fnScope s_fire) := C8.fnScope_by (by decide +kernel)
abbrev s_each : Stmt := topS 34
abbrev N_each : List Str := ["session", "n", "before"]
theorem sc_each : FnScope N_each ["session", "n"] (C8.fnScope s_each) := C8.fnScope_by (by decide +kernel)
abbrev s_save : Stmt := topS 35
abbrev N_save : List Str := ["session", "p"]
theorem sc_save : FnScope N_save ["session", "p"] (C8.fnScope s_save) := C8.fnScope_by (by decide +kernel)
abbrev s_turn : Stmt := topS 36
abbrev N_turn : List Str := ["session", "before"]
theorem sc_turn : FnScope N_turn ["session"] (C8.fnScope s_turn) := C8.fnScope_by (by decide +kernel)
abbrev s_again : Stmt := topS 37
abbrev N_again : List Str := ["session", "before"]
theorem sc_again : FnScope N_again ["session"] (C8.fnScope s_again) := C8.fnScope_by (by decide +kernel)
abbrev s_burns : Stmt := topS 38
abbrev N_burns : List Str := ["session"]
theorem sc_burns : FnScope N_burns ["session"] (C8.fnScope s_burns) := C8.fnScope_by (by decide +kernel)
abbrev s_saved : Stmt := topS 39
abbrev N_saved : List Str := ["session"]
theorem sc_saved : FnScope N_saved ["session"] (C8.fnScope s_saved) := C8.fnScope_by (by decide +kernel)
abbrev s_safe : Stmt := topS 40
abbrev N_safe : List Str := ["session", "burning", "more", "p"]
theorem sc_safe : FnScope N_safe ["session"] (C8.fnScope s_safe) := C8.fnScope_by (by decide +kernel)
abbrev s_state : Stmt := topS 41
abbrev N_state : List Str := ["session"]
theorem sc_state : FnScope N_state ["session"] (C8.fnScope s_state) := C8.fnScope_by (by decide +kernel)
abbrev s_ways_now : Stmt := topS 45
abbrev N_ways_now : List Str := ["session"]
theorem sc_ways_now : FnScope N_ways_now ["session"] (C8.fnScope s_ways_now) := C8.fnScope_by (by decide +kernel)
abbrev s_are_in_range : Stmt := topS 46
abbrev N_are_in_range : List Str := ["session", "places", "p"]
theorem sc_are_in_range : FnScope N_are_in_range ["session", "places"] (C8.fnScope s_are_in_range) := C8.fnScope_by (by decide +kernel)
abbrev s_at_beginning : Stmt := topS 47
abbrev N_at_beginning : List Str := ["session", "trial"]
theorem sc_at_beginning : FnScope N_at_beginning ["session"] (C8.fnScope s_at_beginning) := C8.fnScope_by (by decide +kernel)
abbrev s_most_kept : Stmt := topS 48
abbrev N_most_kept : List Str := ["session", "origin", "each", "ways"]
theorem sc_most_kept : FnScope N_most_kept ["session", "origin", "each"] (C8.fnScope s_most_kept) := C8.fnScope_by (by decide +kernel)
abbrev s_most_by_origin : Stmt := topS 49
abbrev N_most_by_origin : List Str := ["session", "p"]
theorem sc_most_by_origin : FnScope N_most_by_origin ["session"] (C8.fnScope s_most_by_origin) := C8.fnScope_by (by decide +kernel)
abbrev s_best : Stmt := topS 50
abbrev N_best : List Str := ["session", "ways", "places"]
theorem sc_best : FnScope N_best ["session"] (C8.fnScope s_best) := C8.fnScope_by (by decide +kernel)
abbrev s_greedy : Stmt := topS 51
abbrev N_greedy : List Str := ["session", "ways", "places"]
theorem sc_greedy : FnScope N_greedy ["session"] (C8.fnScope s_greedy) := C8.fnScope_by (by decide +kernel)
abbrev s_run : Stmt := topS 52
abbrev N_run : List Str := ["session", "row", "trial", "p", "unburnt"]
theorem sc_run : FnScope N_run ["session", "row"] (C8.fnScope s_run) := C8.fnScope_by (by decide +kernel)
abbrev s_size : Stmt := topS 53
abbrev N_size : List Str := ["session", "p"]
theorem sc_size : FnScope N_size ["session", "p"] (C8.fnScope s_size) := C8.fnScope_by (by decide +kernel)
abbrev s_deep : Stmt := topS 54
abbrev N_deep : List Str := ["session", "p"]
theorem sc_deep : FnScope N_deep ["session", "p"] (C8.fnScope s_deep) := C8.fnScope_by (by decide +kernel)
abbrev s_level : Stmt := topS 55
abbrev N_level : List Str := ["session", "n", "depths", "p"]
theorem sc_level : FnScope N_level ["session", "n"] (C8.fnScope s_level) := C8.fnScope_by (by decide +kernel)
abbrev s_kept : Stmt := topS 56
abbrev N_kept : List Str := ["session", "places"]
theorem sc_kept : FnScope N_kept ["session", "places"] (C8.fnScope s_kept) := C8.fnScope_by (by decide +kernel)
abbrev s_worst : Stmt := topS 57
abbrev N_worst : List Str := ["session", "most", "least", "p"]
theorem sc_worst : FnScope N_worst ["session"] (C8.fnScope s_worst) := C8.fnScope_by (by decide +kernel)
abbrev s_from_all : Stmt := topS 58
abbrev N_from_all : List Str := ["session"]
theorem sc_from_all : FnScope N_from_all ["session"] (C8.fnScope s_from_all) := C8.fnScope_by (by decide +kernel)
abbrev s_mores : Stmt := topS 59
abbrev N_mores : List Str := ["session", "each"]
theorem sc_mores : FnScope N_mores ["session"] (C8.fnScope s_mores) := C8.fnScope_by (by decide +kernel)
abbrev s_end_of_call : Stmt := topS 66
abbrev N_end_of_call : List Str := ["calls", "at"]
theorem sc_end_of_call : FnScope N_end_of_call ["calls", "at"] (C8.fnScope s_end_of_call) := C8.fnScope_by (by decide +kernel)
abbrev s_answer_of : Stmt := topS 67
abbrev N_answer_of : List Str := ["session", "call", "given"]
theorem sc_answer_of : FnScope N_answer_of ["session", "call", "given"] (C8.fnScope s_answer_of) := C8.fnScope_by (by decide +kernel)
abbrev s_answers : Stmt := topS 68
abbrev N_answers : List Str := ["calls", "session", "told", "at", "behind", "answer"]
theorem sc_answers : FnScope N_answers ["calls"] (C8.fnScope s_answers) := C8.fnScope_by (by decide +kernel)
end FS

set_option maxRecDepth 100000
set_option maxHeartbeats 4000000
/-! # How the session lies in the heap -/
namespace FS
open PySem PySem.Spec PyProof.Rows L2 Evl
/-- what a session holds -/
structure Dat where
  joined : List V
  origin : Int
  each : Int
  used : Int
  burning : List Int
  saved : List Int
/-- where its parts lie -/
structure Adr where
  dx : Addr
  aj : Addr
  ab : Addr
  as : Addr
def Dat.fs (A : Adr) (d : Dat) : List (Str × V) := [("joined", .ref A.aj), ("origin", .int d.origin), ("each", .int d.each), ("used", .int d.used), ("burning", .ref A.ab), ("saved", .ref A.as)]
structure SesAt (C : Addr) (H : Hp) (a : Addr) (A : Adr) (d : Dat) : Prop where
  ins : H a = some (.ins C A.dx (d.fs A))
  jl : H A.aj = some (.lst d.joined)
  bl : H A.ab = some (.lst (d.burning.map V.int))
  sl : H A.as = some (.lst (d.saved.map V.int))
  js : A.aj ≠ A.as
  jb : A.aj ≠ A.ab
  bs : A.ab ≠ A.as
section
variable {C : Addr} {H H' : Hp} {a : Addr} {A : Adr} {d : Dat}
theorem SesAt.mono (h : SesAt C H a A d) (e : Ex H H') : SesAt C H' a A d := ⟨e _ _ h.ins, e _ _ h.jl, e _ _ h.bl, e _ _ h.sl, h.js, h.jb, h.bs⟩
theorem SesAt.aj (h : SesAt C H a A d) : A.aj ≠ a := ne_of h.jl h.ins (by intro z; cases z)
theorem SesAt.ab (h : SesAt C H a A d) : A.ab ≠ a := ne_of h.bl h.ins (by intro z; cases z)
theorem SesAt.as (h : SesAt C H a A d) : A.as ≠ a := ne_of h.sl h.ins (by intro z; cases z)
theorem fs_joined : (d.fs A).lookup ("joined" : Str) = some (.ref A.aj) := lk_here
theorem fs_origin : (d.fs A).lookup ("origin" : Str) = some (.int d.origin) := (lk_past (by decide +kernel)).trans lk_here
theorem fs_each : (d.fs A).lookup ("each" : Str) = some (.int d.each) := (lk_past (by decide +kernel)).trans ((lk_past (by decide +kernel)).trans lk_here)
theorem fs_used : (d.fs A).lookup ("used" : Str) = some (.int d.used) := (lk_past (by decide +kernel)).trans ((lk_past (by decide +kernel)).trans ((lk_past (by decide +kernel)).trans lk_here))
theorem fs_burning : (d.fs A).lookup ("burning" : Str) = some (.ref A.ab) := (lk_past (by decide +kernel)).trans ((lk_past (by decide +kernel)).trans ((lk_past (by decide +kernel)).trans ((lk_past (by decide +kernel)).trans lk_here)))
theorem fs_saved : (d.fs A).lookup ("saved" : Str) = some (.ref A.as) := (lk_past (by decide +kernel)).trans ((lk_past (by decide +kernel)).trans ((lk_past (by decide +kernel)).trans ((lk_past (by decide +kernel)).trans ((lk_past (by decide +kernel)).trans lk_here))))
theorem put_joined {p : Addr} : putF "joined" (.ref p) (d.fs A) = d.fs { A with aj := p } := put_here
theorem put_origin {z : Int} : putF "origin" (.int z) (d.fs A) = ({ d with origin := z } : Dat).fs A := (put_past (by decide +kernel)).trans (congrArg _ put_here)
theorem put_each {z : Int} : putF "each" (.int z) (d.fs A) = ({ d with each := z } : Dat).fs A := (put_past (by decide +kernel)).trans (congrArg _ ((put_past (by decide +kernel)).trans (congrArg _ put_here)))
theorem put_used {z : Int} : putF "used" (.int z) (d.fs A) = ({ d with used := z } : Dat).fs A := (put_past (by decide +kernel)).trans (congrArg _ ((put_past (by decide +kernel)).trans (congrArg _ ((put_past (by decide +kernel)).trans (congrArg _ put_here)))))
theorem put_burning {p : Addr} : putF "burning" (.ref p) (d.fs A) = d.fs { A with ab := p } := (put_past (by decide +kernel)).trans (congrArg _ ((put_past (by decide +kernel)).trans (congrArg _ ((put_past (by decide +kernel)).trans (congrArg _ ((put_past (by decide +kernel)).trans (congrArg _ put_here)))))))
theorem put_saved {p : Addr} : putF "saved" (.ref p) (d.fs A) = d.fs { A with as := p } := (put_past (by decide +kernel)).trans (congrArg _ ((put_past (by decide +kernel)).trans (congrArg _ ((put_past (by decide +kernel)).trans (congrArg _ ((put_past (by decide +kernel)).trans (congrArg _ ((put_past (by decide +kernel)).trans (congrArg _ put_here)))))))))
theorem fs_len : (d.fs A).length < 1000 := by show 6 < 1000; decide
/-- a field stored: what stands behind it -/
theorem SesAt.setN (h : SesAt C H a A d) {d' : Dat} (hj : d'.joined = d.joined) (hb : d'.burning = d.burning) (hs : d'.saved = d.saved) : SesAt C (upd H a (.ins C A.dx (d'.fs A))) a A d' :=
  ⟨upd_same, by rw [upd_ne h.aj, hj]; exact h.jl, by rw [upd_ne h.ab, hb]; exact h.bl, by rw [upd_ne h.as, hs]; exact h.sl, h.js, h.jb, h.bs⟩
theorem SesAt.setOrigin (h : SesAt C H a A d) (z : Int) : SesAt C (upd H a (.ins C A.dx (putF "origin" (.int z) (d.fs A)))) a A { d with origin := z } := by
  rw [put_origin]
  exact h.setN rfl rfl rfl
theorem SesAt.setEach (h : SesAt C H a A d) (z : Int) : SesAt C (upd H a (.ins C A.dx (putF "each" (.int z) (d.fs A)))) a A { d with each := z } := by
  rw [put_each]
  exact h.setN rfl rfl rfl
theorem SesAt.setUsed (h : SesAt C H a A d) (z : Int) : SesAt C (upd H a (.ins C A.dx (putF "used" (.int z) (d.fs A)))) a A { d with used := z } := by
  rw [put_used]
  exact h.setN rfl rfl rfl
theorem SesAt.setJoined (h : SesAt C H a A d) {p : Addr} {xs : List V} (hp : H p = some (.lst xs)) (n1 : p ≠ A.as) (n2 : p ≠ A.ab) : SesAt C (upd H a (.ins C A.dx (putF "joined" (.ref p) (d.fs A)))) a { A with aj := p } { d with joined := xs } := by
  rw [put_joined]
  exact ⟨upd_same, (upd_ne (ne_of hp h.ins (by intro z; cases z))).trans hp, (upd_ne h.ab).trans h.bl, (upd_ne h.as).trans h.sl, n1, n2, h.bs⟩
theorem SesAt.setBurning (h : SesAt C H a A d) {p : Addr} {ns : List Int} (hp : H p = some (.lst (ns.map V.int))) (n1 : p ≠ A.as) (n2 : p ≠ A.aj) : SesAt C (upd H a (.ins C A.dx (putF "burning" (.ref p) (d.fs A)))) a { A with ab := p } { d with burning := ns } := by
  rw [put_burning]
  exact ⟨upd_same, (upd_ne h.aj).trans h.jl, (upd_ne (ne_of hp h.ins (by intro z; cases z))).trans hp, (upd_ne h.as).trans h.sl, h.js, fun z => n2 z.symm, n1⟩
theorem SesAt.setSaved (h : SesAt C H a A d) {p : Addr} {ns : List Int} (hp : H p = some (.lst (ns.map V.int))) (n1 : p ≠ A.ab) (n2 : p ≠ A.aj) : SesAt C (upd H a (.ins C A.dx (putF "saved" (.ref p) (d.fs A)))) a { A with as := p } { d with saved := ns } := by
  rw [put_saved]
  exact ⟨upd_same, (upd_ne h.aj).trans h.jl, (upd_ne h.ab).trans h.bl, (upd_ne (ne_of hp h.ins (by intro z; cases z))).trans hp, fun z => n2 z.symm, h.jb, fun z => n1 z.symm⟩
/-- the lists that change where they lie -/
theorem SesAt.putJ (h : SesAt C H a A d) (xs : List V) : SesAt C (upd H A.aj (.lst xs)) a A { d with joined := xs } :=
  ⟨(upd_ne fun z => h.aj z.symm).trans h.ins, upd_same, (upd_ne fun z => h.jb z.symm).trans h.bl, (upd_ne fun z => h.js z.symm).trans h.sl, h.js, h.jb, h.bs⟩
theorem SesAt.putS (h : SesAt C H a A d) (ns : List Int) : SesAt C (upd H A.as (.lst (ns.map V.int))) a A { d with saved := ns } :=
  ⟨(upd_ne fun z => h.as z.symm).trans h.ins, (upd_ne h.js).trans h.jl, (upd_ne h.bs).trans h.bl, upd_same, h.js, h.jb, h.bs⟩
end
/-! ### tables of code objects grow; all else stays -/
def NT (o : HO) : Prop := ∀ ps, o ≠ .tbl ps
theorem nt_lst {xs : List V} : NT (.lst xs) := fun ps z => by cases z
theorem nt_tup {xs : List V} : NT (.tup xs) := fun ps z => by cases z
theorem nt_ins {C dx : Addr} {fs : List (Str × V)} : NT (.ins C dx fs) := fun ps z => by cases z
theorem nt_frz {o : Obj} {u : HO} : NT (.frz o u) := fun ps z => by cases z
/-- the table of the code objects that the greatest first makes -/
def tabQ : Str := ("greatest_first" : Str) ++ ".<locals>." ++ "<lambda>"
def TabOk (L : Locs) (H : Hp) : Prop := LamX.TabS H L.tab tabQ
/-- what's told of the table stays so -/
def TK (L : Locs) (H H' : Hp) : Prop := TabOk L H → TabOk L H'
theorem TK.refl {L : Locs} (H : Hp) : TK L H H := id
theorem TK.trans {L : Locs} {H H1 H2 : Hp} (a : TK L H H1) (b : TK L H1 H2) : TK L H H2 := fun h => b (a h)
theorem TK.ex {L : Locs} {H H' : Hp} (e : Ex H H') : TK L H H' := fun h => h.ext e
/-- nothing but a table lies there -/
def Nw (H : Hp) (p : Addr) : Prop := ∀ o, H p = some o → NT o → False
theorem nw_of {H : Hp} {p : Addr} (h : H p = none) : Nw H p := fun o e _ => by rw [h] at e; cases e
theorem Nw.ne {H : Hp} {p b : Addr} {o : HO} (n : Nw H p) (h : H b = some o) (nt : NT o) : p ≠ b := fun z => n o (by rw [z]; exact h) nt
/-- plain: neither a table nor a code object -/
def Pln (o : HO) : Prop := NT o ∧ ∀ φ, o ≠ .ext φ
theorem pln_lst {xs : List V} : Pln (.lst xs) := ⟨nt_lst, fun φ z => by cases z⟩
theorem pln_ins {C dx : Addr} {fs : List (Str × V)} : Pln (.ins C dx fs) := ⟨nt_ins, fun φ z => by cases z⟩
theorem TK.upd {L : Locs} {H : Hp} {a : Addr} {o o' : HO} (h : H a = some o) (n : Pln o) : TK L H (upd H a o') := fun ⟨ps, h1, h2, h3⟩ => by
  have ne : L.tab ≠ a := fun z => by rw [z, h] at h1; exact n.1 ps (Option.some.inj h1)
  refine ⟨ps, (upd_ne ne).trans h1, h2, fun pos cv hc => ?_⟩
  obtain ⟨c, e1, e2⟩ := h3 pos cv hc
  refine ⟨c, e1, (upd_ne fun z => ?_).trans e2⟩
  rw [z, h] at e2
  exact n.2 _ (Option.some.inj e2)
/-- all but the session's own stands as it was; its parts are those from before, or new ones -/
structure Kept (L : Locs) (a : Addr) (A A' : Adr) (H H' : Hp) : Prop where
  keep : ∀ b o, H b = some o → NT o → b ≠ a → b ≠ A.aj → b ≠ A.as → H' b = some o
  tk : TK L H H'
  aj : A'.aj = A.aj ∨ Nw H A'.aj
  ab : A'.ab = A.ab ∨ Nw H A'.ab
  as : A'.as = A.as ∨ Nw H A'.as
section
variable {L : Locs} {a : Addr} {A A1 A2 : Adr} {H H1 H2 : Hp}
theorem Kept.refl : Kept L a A A H H := ⟨fun _ _ h _ _ _ _ => h, .refl H, .inl rfl, .inl rfl, .inl rfl⟩
theorem Kept.ex (e : Ex H H1) : Kept L a A A H H1 := ⟨fun b o h _ _ _ _ => e b o h, .ex e, .inl rfl, .inl rfl, .inl rfl⟩
/-- behind one another: what was free and is free no more isn't asked, so the first one's parts are told by H -/
theorem Kept.trans {C : Addr} {d : Dat} (s : SesAt C H a A d) (h1 : Kept L a A A1 H H1) (h2 : Kept L a A1 A2 H1 H2) (f : ∀ b, Nw H1 b → Nw H b) : Kept L a A A2 H H2 := by
  refine ⟨fun b o h nt n1 n2 n3 => h2.keep b o (h1.keep b o h nt n1 n2 n3) nt n1 ?_ ?_, h1.tk.trans h2.tk, ?_, ?_, ?_⟩
  · rcases h1.aj with e | e
    · rw [e]; exact n2
    · exact fun z => e.ne h nt z.symm
  · rcases h1.as with e | e
    · rw [e]; exact n3
    · exact fun z => e.ne h nt z.symm
  · rcases h2.aj with e | e
    · rw [e]; exact h1.aj
    · exact .inr (f _ e)
  · rcases h2.ab with e | e
    · rw [e]; exact h1.ab
    · exact .inr (f _ e)
  · rcases h2.as with e | e
    · rw [e]; exact h1.as
    · exact .inr (f _ e)
end
/-- nothing that is tracked is forgotten -/
def Grow (H H' : Hp) : Prop := ∀ b, Nw H' b → Nw H b
theorem Grow.refl (H : Hp) : Grow H H := fun _ h => h
theorem Grow.ex {H H' : Hp} (e : Ex H H') : Grow H H' := fun b h o q nt => h o (e b o q) nt
theorem Grow.trans {H H1 H2 : Hp} (a : Grow H H1) (b : Grow H1 H2) : Grow H H2 := fun c h => a c (b c h)
theorem Grow.upd {H : Hp} {a : Addr} {o : HO} (n : NT o) : Grow H (upd H a o) := fun b h u q nt => by
  by_cases e : b = a
  · subst e
    exact h o upd_same n
  · exact h u ((upd_ne e).trans q) nt
/-- nothing is changed but tables, which grow -/
structure EN (L : Locs) (H H' : Hp) : Prop where
  keep : ∀ b o, H b = some o → NT o → H' b = some o
  tk : TK L H H'
theorem EN.ex {L : Locs} {H H' : Hp} (e : Ex H H') : EN L H H' := ⟨fun b o h _ => e b o h, .ex e⟩
theorem EN.refl {L : Locs} (H : Hp) : EN L H H := .ex (Ex.refl H)
theorem EN.trans {L : Locs} {H H1 H2 : Hp} (a : EN L H H1) (b : EN L H1 H2) : EN L H H2 := ⟨fun c o h n => b.keep c o (a.keep c o h n) n, a.tk.trans b.tk⟩
theorem EN.grow {L : Locs} {H H' : Hp} (e : EN L H H') : Grow H H' := fun b h o q nt => h o (e.keep b o q nt) nt
theorem SesAt.monoN {L : Locs} {C : Addr} {H H' : Hp} {a : Addr} {A : Adr} {d : Dat} (h : SesAt C H a A d) (e : EN L H H') : SesAt C H' a A d := ⟨e.keep _ _ h.ins nt_ins, e.keep _ _ h.jl nt_lst, e.keep _ _ h.bl nt_lst, e.keep _ _ h.sl nt_lst, h.js, h.jb, h.bs⟩
/-- a step: the session is so now, all else is kept -/
structure Stp (L : Locs) (a : Addr) (A : Adr) (H : Hp) (A' : Adr) (d' : Dat) (H' : Hp) : Prop where
  ses : SesAt L.C_Session H' a A' d'
  kept : Kept L a A A' H H'
  grow : Grow H H'
section
variable {L : Locs} {a : Addr} {A A1 A2 : Adr} {d d1 d2 : Dat} {H H1 H2 : Hp}
theorem Stp.refl (h : SesAt L.C_Session H a A d) : Stp L a A H A d H := ⟨h, .refl, .refl H⟩
theorem Stp.exN (h : Stp L a A H A1 d1 H1) (e : EN L H1 H2) : Stp L a A H A1 d1 H2 := ⟨h.ses.monoN e, ⟨fun b o q nt n1 n2 n3 => e.keep _ _ (h.kept.keep b o q nt n1 n2 n3) nt, h.kept.tk.trans e.tk, h.kept.aj, h.kept.ab, h.kept.as⟩, h.grow.trans e.grow⟩
theorem Stp.ex (h : Stp L a A H A1 d1 H1) (e : Ex H1 H2) : Stp L a A H A1 d1 H2 := h.exN (.ex e)
theorem Stp.trans (h : Stp L a A H A1 d1 H1) (h2 : Stp L a A1 H1 A2 d2 H2) (s : SesAt L.C_Session H a A d) : Stp L a A H A2 d2 H2 := ⟨h2.ses, h.kept.trans s h2.kept h.grow, h.grow.trans h2.grow⟩
/-- the session's own object written -/
theorem Stp.set (h : SesAt L.C_Session H a A d) {C' dx' : Addr} {fs' : List (Str × V)} (s : SesAt L.C_Session (upd H a (.ins C' dx' fs')) a A1 d1) (hj : A1.aj = A.aj ∨ Nw H A1.aj) (hb : A1.ab = A.ab ∨ Nw H A1.ab) (hs : A1.as = A.as ∨ Nw H A1.as) : Stp L a A H A1 d1 (upd H a (.ins C' dx' fs')) :=
  ⟨s, ⟨fun b u q _ n1 _ _ => (upd_ne n1).trans q, .upd h.ins pln_ins, hj, hb, hs⟩, .upd nt_ins⟩
/-- .. behind new objects -/
theorem Stp.setX (h : SesAt L.C_Session H a A d) (e : Ex H H1) {C' dx' : Addr} {fs' : List (Str × V)} (s : SesAt L.C_Session (upd H1 a (.ins C' dx' fs')) a A1 d1) (hj : A1.aj = A.aj ∨ Nw H A1.aj) (hb : A1.ab = A.ab ∨ Nw H A1.ab) (hs : A1.as = A.as ∨ Nw H A1.as) : Stp L a A H A1 d1 (upd H1 a (.ins C' dx' fs')) :=
  ⟨s, ⟨fun b u q _ n1 _ _ => (upd_ne n1).trans (e _ _ q), (TK.ex e).trans (.upd (e _ _ h.ins) pln_ins), hj, hb, hs⟩, (Grow.ex e).trans (.upd nt_ins)⟩
theorem Stp.putJ (h : SesAt L.C_Session H a A d) (xs : List V) : Stp L a A H A { d with joined := xs } (upd H A.aj (.lst xs)) := ⟨h.putJ xs, ⟨fun b u q _ _ n2 _ => (upd_ne n2).trans q, .upd h.jl pln_lst, .inl rfl, .inl rfl, .inl rfl⟩, .upd nt_lst⟩
theorem Stp.putS (h : SesAt L.C_Session H a A d) (ns : List Int) : Stp L a A H A { d with saved := ns } (upd H A.as (.lst (ns.map V.int))) := ⟨h.putS ns, ⟨fun b u q _ _ _ n3 => (upd_ne n3).trans q, .upd h.sl pln_lst, .inl rfl, .inl rfl, .inl rfl⟩, .upd nt_lst⟩
end
/-- a call's answer: a new list of whole numbers, the session as told -/
def RetC (L : Locs) (a : Addr) (A : Adr) (H : Hp) (d' : Dat) (ans : List Int) (Q : VK) : Prop := ∀ p A' H', Nw H p → H' p = some (.lst (ans.map V.int)) → Stp L a A H A' d' H' → Q (.ref p) H'
/-! ### fields of a session, read -/
section
variable {K : PySem.W.Frag} {mg : Str → Option Value} {L : Locs} {a : Addr} {σ : L2.St} {H : Hp} {A : Adr} {d : Dat} {ta : TE}
theorem ev_joined (T : Txt K mg L) (s : SesAt L.C_Session H a A d) (h : Ev ta σ H (.ref a)) : Ev (tFld K ta "joined") σ H (.ref A.aj) := ev_fld h s.ins T.cl_Session T.a_Session_joined fs_joined
theorem ev_origin (T : Txt K mg L) (s : SesAt L.C_Session H a A d) (h : Ev ta σ H (.ref a)) : Ev (tFld K ta "origin") σ H (.int d.origin) := ev_fld h s.ins T.cl_Session T.a_Session_origin fs_origin
theorem ev_each (T : Txt K mg L) (s : SesAt L.C_Session H a A d) (h : Ev ta σ H (.ref a)) : Ev (tFld K ta "each") σ H (.int d.each) := ev_fld h s.ins T.cl_Session T.a_Session_each fs_each
theorem ev_used (T : Txt K mg L) (s : SesAt L.C_Session H a A d) (h : Ev ta σ H (.ref a)) : Ev (tFld K ta "used") σ H (.int d.used) := ev_fld h s.ins T.cl_Session T.a_Session_used fs_used
theorem ev_burning (T : Txt K mg L) (s : SesAt L.C_Session H a A d) (h : Ev ta σ H (.ref a)) : Ev (tFld K ta "burning") σ H (.ref A.ab) := ev_fld h s.ins T.cl_Session T.a_Session_burning fs_burning
theorem ev_saved (T : Txt K mg L) (s : SesAt L.C_Session H a A d) (h : Ev ta σ H (.ref a)) : Ev (tFld K ta "saved") σ H (.ref A.as) := ev_fld h s.ins T.cl_Session T.a_Session_saved fs_saved
end
end FS

set_option maxRecDepth 100000
set_option maxHeartbeats 4000000
namespace FS
open PySem PySem.Spec PyProof.Rows L2 Evl
open Su121 (Abs)
/-! ### numbers that aren't below 0 -/
theorem mem_I {n : Nat} {l : List Nat} : (n : Int) ∈ I l ↔ n ∈ l := by
  unfold I
  rw [List.mem_map]
  constructor
  · rintro ⟨m, h, e⟩
    have : m = n := by omega
    exact this ▸ h
  · exact fun h => ⟨n, h, rfl⟩
theorem I_get {l : List Nat} {i n : Nat} (h : l[i]? = some n) : (I l)[i]? = some (n : Int) := by
  unfold I
  rw [List.getElem?_map, h]
  rfl
theorem of_I {z : Int} {l : List Nat} (h : z ∈ I l) : ∃ n, n ∈ l ∧ z = (n : Int) := by
  obtain ⟨n, h1, h2⟩ := List.mem_map.mp h
  exact ⟨n, h1, h2.symm⟩
theorem inV_I (p : Nat) (l : List Nat) : inV (.int (p : Int)) ((I l).map V.int) = l.contains p := by
  rw [inV_ints, Bool.eq_iff_iff, decide_eq_true_eq, mem_I]
  simp
/-! ### a session of the specification, as it lies -/
def joinedV (up : List Nat) : List V := .non :: (I up).map V.int
def dat (x : Abs) : Dat := ⟨joinedV x.tree.up, x.fire, x.each, x.used, I x.burns, I x.saved⟩
/-- ahead of a begin -/
def dat0 : Dat := ⟨[], 0, 1, 0, [], []⟩
def datO : Option Abs → Dat
  | none => dat0
  | some x => dat x
structure Ok (x : Abs) : Prop where
  wf : Wf x.tree.up
  n12 : x.n ≤ 12
  fire : x.fire < x.n
  each : x.each = 1 ∨ x.each = 2
  burns : ∀ p ∈ x.burns, p < x.n
  lit : x.fire ∈ x.burns
  bnd : x.burns.Nodup
  saved : ∀ p ∈ x.saved, p < x.n
  snd : x.saved.Nodup
  used : x.used ≤ x.each
theorem joinedV_len (up : List Nat) : (joinedV up).length = up.length + 1 := by
  show ((I up).map V.int).length + 1 = _
  rw [List.length_map, I_len]
theorem dat_len (x : Abs) : (dat x).joined.length = x.n := joinedV_len _
theorem nodup_le {l : List Nat} {n : Nat} (nd : l.Nodup) (h : ∀ p ∈ l, p < n) : l.length ≤ n := by
  have h2 : l ⊆ List.range n := fun p hp => List.mem_range.mpr (h p hp)
  have := nd.length_le_of_subset h2
  rwa [List.length_range] at this
theorem Ok.bl {x : Abs} (h : Ok x) : x.burns.length ≤ 12 := Nat.le_trans (nodup_le h.bnd h.burns) h.n12
theorem Ok.sl {x : Abs} (h : Ok x) : x.saved.length ≤ 12 := Nat.le_trans (nodup_le h.snd h.saved) h.n12
theorem joined_at {up : List Nat} {p : Nat} (hp : p < up.length + 1) : (joinedV up)[p]? = some (if p = 0 then .non else .int ((up.getD (p - 1) 0 : Nat) : Int)) := by
  cases p with
  | zero => rfl
  | succ p =>
    show ((I up).map V.int)[p]? = _
    have h : p < up.length := by omega
    rw [List.getElem?_map, I_get (List.getElem?_eq_getElem h)]
    show some _ = some _
    rw [if_neg (by omega)]
    congr 2
    rw [List.getD_eq_getElem?_getD, List.getElem?_eq_getElem (by omega)]
    rfl
/-- joined[p] == q -/
theorem joined_eq {up : List Nat} (w : Wf up) {p q : Nat} (hp : p < up.length + 1) : decide ((if p = 0 then V.non else .int ((up.getD (p - 1) 0 : Nat) : Int)) = V.int (q : Int)) = decide (q < p ∧ pa up p = q) := by
  refine decide_eq_decide.mpr ?_
  by_cases h : p = 0
  · rw [if_pos h]
    constructor
    · intro e; cases e
    · rintro ⟨l, _⟩; omega
  · rw [if_neg h]
    have l := pa_lt up (p := p) (by omega)
    rw [pa_eq w (by omega) hp]
    constructor
    · intro e
      injection e with e
      exact ⟨by omega, by omega⟩
    · rintro ⟨_, e⟩
      rw [e]
/-! ### what the defs promise -/
def catchB (x : Abs) (p : Nat) (bs : List Nat) : Bool := !(x.saved.contains p) && (x.tree.near p).any fun q => bs.contains q
def goneOn (x : Abs) (bs : List Nat) : List Nat := x.ps.filter fun p => bs.contains p || catchB x p bs
section
def sp_Session_init (K : PySem.W.Frag) (L : Locs) : Sp := fun vs H Q _ => ∃ (p dx : Addr), vs = [.ref p] ∧ H p = some (.ins L.C_Session dx []) ∧ H dx = some (.own p) ∧
  ∀ H' A, SesAt L.C_Session H' p A dat0 → (∀ b o, H b = some o → b ≠ p → H' b = some o) → H A.aj = none → H A.ab = none → H A.as = none → Q .non H'
def sp_put_fire_back (K : PySem.W.Frag) (L : Locs) : Sp := fun vs H Q _ => ∃ a A d, vs = [.ref a] ∧ SesAt L.C_Session H a A d ∧
  ∀ A' H', Stp L a A H A' { d with burning := [d.origin], saved := [], used := 0 } H' → Q .non H'
def sp_is_place (K : PySem.W.Frag) (L : Locs) : Sp := fun vs H Q _ => ∃ a A d p, vs = [.ref a, .int p] ∧ SesAt L.C_Session H a A d ∧ RetV (.bl (decide (p < (d.joined.length : Int)))) H Q
def sp_is_under_way (K : PySem.W.Frag) (L : Locs) : Sp := fun vs H Q _ => ∃ a A d, vs = [.ref a] ∧ SesAt L.C_Session H a A d ∧ RetV (.bl (decide (1 < d.burning.length) || decide (0 < d.saved.length))) H Q
def sp_catches (K : PySem.W.Frag) (L : Locs) : Sp := fun vs H Q _ => ∃ a A x p ab bs, vs = [.ref a, .int ((p : Nat) : Int), .ref ab] ∧ SesAt L.C_Session H a A (dat x) ∧ Ok x ∧ p < x.n ∧ H ab = some (.lst ((I bs).map V.int)) ∧ (∀ q ∈ bs, q < x.n) ∧ bs.length ≤ 12 ∧ RetV (.bl (catchB x p bs)) H Q
def sp_gone_on (K : PySem.W.Frag) (L : Locs) : Sp := fun vs H Q _ => ∃ a A x ab bs, vs = [.ref a, .ref ab] ∧ SesAt L.C_Session H a A (dat x) ∧ Ok x ∧ H ab = some (.lst ((I bs).map V.int)) ∧ (∀ q ∈ bs, q < x.n) ∧ bs.length ≤ 12 ∧ RetL ((I (goneOn x bs)).map V.int) H Q
def sp_counted (K : PySem.W.Frag) (L : Locs) : Sp := fun vs H Q _ => ∃ (a : Addr) (ns : List Int), vs = [.ref a] ∧ H a = some (.lst (ns.map V.int)) ∧ ns.length ≤ 1000 ∧ RetL (((ns.length : Int) :: ns).map V.int) H Q
/-- a call without a number, with one: the specification's step from a session that is begun -/
def spPlain (L : Locs) (c : Su121.Call) : Sp := fun vs H Q _ => ∃ a A x, vs = [.ref a] ∧ SesAt L.C_Session H a A (dat x) ∧ Ok x ∧ RetC L a A H (dat (Su121.does x c).1) (ansI (Su121.does x c).2) Q
def spNum (L : Locs) (c : Nat → Su121.Call) : Sp := fun vs H Q _ => ∃ a A x p, vs = [.ref a, .int ((p : Nat) : Int)] ∧ SesAt L.C_Session H a A (dat x) ∧ Ok x ∧ RetC L a A H (dat (Su121.does x (c p)).1) (ansI (Su121.does x (c p)).2) Q
def sp_begin (K : PySem.W.Frag) (L : Locs) : Sp := fun vs H Q _ => ∃ a A d, vs = [.ref a] ∧ SesAt L.C_Session H a A d ∧ RetC L a A H (dat Su121.one) [0] Q
def sp_join (K : PySem.W.Frag) (L : Locs) : Sp := spNum L .join
def sp_drop (K : PySem.W.Frag) (L : Locs) : Sp := spPlain L .drop
def sp_fire (K : PySem.W.Frag) (L : Locs) : Sp := spNum L .fire
def sp_each (K : PySem.W.Frag) (L : Locs) : Sp := spNum L .each
def sp_save (K : PySem.W.Frag) (L : Locs) : Sp := spNum L .save
def sp_turn (K : PySem.W.Frag) (L : Locs) : Sp := spPlain L .turn
def sp_again (K : PySem.W.Frag) (L : Locs) : Sp := spPlain L .again
def sp_burns (K : PySem.W.Frag) (L : Locs) : Sp := spPlain L .burns
def sp_saved (K : PySem.W.Frag) (L : Locs) : Sp := spPlain L .saved
def sp_safe (K : PySem.W.Frag) (L : Locs) : Sp := spPlain L .safe
/-! ### the ways -/
/-- where the parts of the ways lie -/
structure WAdr where
  dx : Addr
  t : Addr
  d : Addr
  s : Addr
  o : Addr
def wfs (B : WAdr) : List (Str × V) := [("toward", .ref B.t), ("depths", .ref B.d), ("sizes", .ref B.s), ("order", .ref B.o)]
def nl (ns : List Nat) : HO := .lst ((I ns).map V.int)
structure WG (C : Addr) (H : Hp) (w : Addr) (B : WAdr) (tl : List V) (dl sl ol : List Nat) : Prop where
  ins : H w = some (.ins C B.dx (wfs B))
  tl : H B.t = some (.lst tl)
  dl : H B.d = some (nl dl)
  sl : H B.s = some (nl sl)
  ol : H B.o = some (nl ol)
  td : B.t ≠ B.d
  ts : B.t ≠ B.s
  to : B.t ≠ B.o
  ds : B.d ≠ B.s
  do_ : B.d ≠ B.o
  so : B.s ≠ B.o
noncomputable def towV (up : List Nat) (f q : Nat) : V := if q = f then .non else .int ((tow up f q : Nat) : Int)
structure WaysAt (C : Addr) (H : Hp) (w : Addr) (B : WAdr) (up : List Nat) (f : Nat) (o : List Nat) : Prop where
  g : WG C H w B ((List.range (up.length + 1)).map (towV up f)) ((List.range (up.length + 1)).map (dd up f)) ((List.range (up.length + 1)).map (sz up (up.length + 1) f)) o
  ord : Ord up (up.length + 1) f o
  n12 : up.length + 1 ≤ 12
/-- the ways are handed back -/
def RetW (L : Locs) (up : List Nat) (f : Nat) (H : Hp) (Q : VK) : Prop := ∀ w B o H', Ex H H' → WaysAt L.C_Ways H' w B up f o → Q (.ref w) H'
/-- a list, new or not -/
def RetE (ns : List Nat) (H : Hp) (Q : VK) : Prop := ∀ p H', Ex H H' → H' p = some (nl ns) → Q (.ref p) H'
/-- .. while tables may have grown -/
def RetN (L : Locs) (ns : List Nat) (H : Hp) (Q : VK) : Prop := ∀ p H', EN L H H' → H' p = some (nl ns) → Q (.ref p) H'
/-- at these addresses lie these lists -/
def Lists (H : Hp) (ps : List Addr) (ls : List (List Nat)) : Prop := ps.length = ls.length ∧ ∀ (i : Nat) (p : Addr) (l : List Nat), ps[i]? = some p → ls[i]? = some l → H p = some (nl l)
def RetLL (ls : List (List Nat)) (H : Hp) (Q : VK) : Prop := ∀ p ps H', Ex H H' → H' p = some (.lst (ps.map V.ref)) → Lists H' ps ls → Q (.ref p) H'
def sp_Ways_init (K : PySem.W.Frag) (L : Locs) : Sp := fun vs H Q _ => ∃ (p dx : Addr) (n f : Nat), vs = [.ref p, .int (n : Int), .int (f : Int)] ∧ n ≤ 12 ∧ H p = some (.ins L.C_Ways dx []) ∧ H dx = some (.own p) ∧
  ∀ H' B, WG L.C_Ways H' p B (List.replicate n .non) (List.replicate n 0) (List.replicate n 1) [f] → (∀ b o, H b = some o → b ≠ p → H' b = some o) → H B.t = none → H B.d = none → H B.s = none → H B.o = none → Q .non H'
def sp_neighbours (K : PySem.W.Frag) (L : Locs) : Sp := fun vs H Q _ => ∃ (a : Addr) (up : List Nat) (p : Nat), vs = [.ref a, .int (p : Int)] ∧ H a = some (.lst (joinedV up)) ∧ Wf up ∧ up.length + 1 ≤ 12 ∧ p < up.length + 1 ∧ RetL ((I ((⟨up⟩ : Su115.Abs).near p)).map V.int) H Q
def sp_ways_to (K : PySem.W.Frag) (L : Locs) : Sp := fun vs H Q _ => ∃ (a : Addr) (up : List Nat) (f : Nat), vs = [.ref a, .int (f : Int)] ∧ H a = some (.lst (joinedV up)) ∧ Wf up ∧ up.length + 1 ≤ 12 ∧ f < up.length + 1 ∧ RetW L up f H Q
def sp_further (K : PySem.W.Frag) (L : Locs) : Sp := fun vs H Q _ => ∃ (w : Addr) (B : WAdr) (up : List Nat) (f : Nat) (o : List Nat) (a : Addr) (ps : List Nat), vs = [.ref w, .ref a] ∧ WaysAt L.C_Ways H w B up f o ∧ H a = some (nl ps) ∧ RetL ((I (kids up (up.length + 1) f ps)).map V.int) H Q
def sp_count_beyond (K : PySem.W.Frag) (L : Locs) : Sp := fun vs H Q _ => ∃ (w : Addr) (B : WAdr) (up : List Nat) (f : Nat) (o : List Nat) (a : Addr) (ps : List Nat), vs = [.ref w, .ref a] ∧ WaysAt L.C_Ways H w B up f o ∧ H a = some (nl ps) ∧ RetV (.int ((cov up (up.length + 1) f ps : Nat) : Int)) H Q
def sp_first_front (K : PySem.W.Frag) (L : Locs) : Sp := fun vs H Q _ => ∃ (w : Addr) (B : WAdr) (up : List Nat) (f : Nat) (o : List Nat), vs = [.ref w] ∧ WaysAt L.C_Ways H w B up f o ∧ RetL ((I (kids up (up.length + 1) f [f])).map V.int) H Q
def sp_front_behind (K : PySem.W.Frag) (L : Locs) : Sp := fun vs H Q _ => ∃ (w : Addr) (B : WAdr) (up : List Nat) (f : Nat) (o : List Nat) (fa xa : Addr) (l x : List Nat), vs = [.ref w, .ref fa, .ref xa] ∧ WaysAt L.C_Ways H w B up f o ∧ H fa = some (nl l) ∧ H xa = some (nl x) ∧ l.length ≤ 12 ∧
  RetL ((I (kids up (up.length + 1) f (out l x))).map V.int) H Q
def sp_choices (K : PySem.W.Frag) (L : Locs) (m : Nat) : Sp := fun vs H Q _ => ∃ (fa : Addr) (l : List Nat) (e : Nat), vs = [.ref fa, .int (e : Int)] ∧ H fa = some (nl l) ∧ l.length < m ∧ l.length ≤ 12 ∧ RetLL (ch e l) H Q
def sp_count_kept (K : PySem.W.Frag) (L : Locs) : Sp := fun vs H Q _ => ∃ (w : Addr) (B : WAdr) (up : List Nat) (f : Nat) (o : List Nat) (a : Addr) (ps : List Nat), vs = [.ref w, .ref a] ∧ WaysAt L.C_Ways H w B up f o ∧ H a = some (nl ps) ∧ (∀ p ∈ ps, p < up.length + 1) ∧ ps.length ≤ 1000 ∧
  RetV (.int ((sm (sz up (up.length + 1) f) ps : Nat) : Int)) H Q
def sp_best_from (K : PySem.W.Frag) (L : Locs) (m : Nat) : Sp := fun vs H Q _ => ∃ (w : Addr) (B : WAdr) (up : List Nat) (f : Nat) (o : List Nat) (fa : Addr) (l : List Nat) (d k e : Nat), vs = [.ref w, .int (e : Int), .ref fa] ∧ WaysAt L.C_Ways H w B up f o ∧ H fa = some (nl l) ∧
  (e = 1 ∨ e = 2) ∧ Pl (up.length + 1) l ∧ (∀ p ∈ l, dd up f p = d) ∧ up.length + 1 ≤ k + d ∧ k < m ∧ RetE (bs up (up.length + 1) f e k l) H Q
def sp_best_row (K : PySem.W.Frag) (L : Locs) : Sp := fun vs H Q _ => ∃ (w : Addr) (B : WAdr) (up : List Nat) (f : Nat) (o : List Nat) (e : Nat), vs = [.ref w, .int (e : Int)] ∧ WaysAt L.C_Ways H w B up f o ∧ (e = 1 ∨ e = 2) ∧ RetE (bs up (up.length + 1) f e (up.length + 1) (kids up (up.length + 1) f [f])) H Q
def sp_greatest_first (K : PySem.W.Frag) (L : Locs) : Sp := fun vs H Q _ => ∃ (w : Addr) (B : WAdr) (up : List Nat) (f : Nat) (o : List Nat) (e : Nat), vs = [.ref w, .int (e : Int)] ∧ WaysAt L.C_Ways H w B up f o ∧ (e = 1 ∨ e = 2) ∧ TabOk L H ∧
  RetN L (gr up (up.length + 1) f e (up.length + 1) (kids up (up.length + 1) f [f])) H Q
/-! ### questions -/
def sp_ways_now (K : PySem.W.Frag) (L : Locs) : Sp := fun vs H Q _ => ∃ a A x, vs = [.ref a] ∧ SesAt L.C_Session H a A (dat x) ∧ Ok x ∧ RetW L x.tree.up x.fire H Q
def sp_are_in_range (K : PySem.W.Frag) (L : Locs) : Sp := fun vs H Q _ => ∃ a A x r row, vs = [.ref a, .ref r] ∧ SesAt L.C_Session H a A (dat x) ∧ Ok x ∧ H r = some (nl row) ∧ row.length ≤ 14 ∧ RetV (.bl (decide (row.length ≤ 12) && row.all fun p => x.isP p)) H Q
def sp_at_beginning (K : PySem.W.Frag) (L : Locs) : Sp := fun vs H Q _ => ∃ a A x, vs = [.ref a] ∧ SesAt L.C_Session H a A (dat x) ∧ Ok x ∧
  ∀ t A' H', EN L H H' → Nw H t → Nw H A'.aj → Nw H A'.ab → Nw H A'.as → SesAt L.C_Session H' t A' (dat x.fresh) → Q (.ref t) H'
/-- how many the best keeps, begun there, so many a turn -/
def kb (x : Abs) (p e : Nat) : Nat := Abs.kept { x with fire := p, each := e } (Abs.best { x with fire := p, each := e })
def sp_most_kept (K : PySem.W.Frag) (L : Locs) : Sp := fun vs H Q _ => ∃ a A x p e, vs = [.ref a, .int ((p : Nat) : Int), .int ((e : Nat) : Int)] ∧ SesAt L.C_Session H a A (dat x) ∧ Ok x ∧ p < x.n ∧ (e = 1 ∨ e = 2) ∧ RetV (.int ((kb x p e : Nat) : Int)) H Q
def sp_most_by_origin (K : PySem.W.Frag) (L : Locs) : Sp := fun vs H Q _ => ∃ a A x, vs = [.ref a] ∧ SesAt L.C_Session H a A (dat x) ∧ Ok x ∧ RetL ((I (x.ps.map x.at_)).map V.int) H Q
def spRowC (L : Locs) (c : List Nat → Su121.Call) : Sp := fun vs H Q _ => ∃ a A x r row, vs = [.ref a, .ref r] ∧ SesAt L.C_Session H a A (dat x) ∧ Ok x ∧ H r = some (nl row) ∧ row.length ≤ 14 ∧ RetC L a A H (dat (Su121.does x (c row)).1) (ansI (Su121.does x (c row)).2) Q
def sp_best (K : PySem.W.Frag) (L : Locs) : Sp := spPlain L .best
def sp_greedy (K : PySem.W.Frag) (L : Locs) : Sp := fun vs H Q _ => ∃ a A x, vs = [.ref a] ∧ SesAt L.C_Session H a A (dat x) ∧ Ok x ∧ TabOk L H ∧ RetC L a A H (dat (Su121.does x .greedy).1) (ansI (Su121.does x .greedy).2) Q
def sp_run (K : PySem.W.Frag) (L : Locs) : Sp := spRowC L .run
def sp_size (K : PySem.W.Frag) (L : Locs) : Sp := spNum L .size
def sp_deep (K : PySem.W.Frag) (L : Locs) : Sp := spNum L .deep
def sp_level (K : PySem.W.Frag) (L : Locs) : Sp := spNum L .level
def sp_kept (K : PySem.W.Frag) (L : Locs) : Sp := spRowC L .kept
def sp_worst (K : PySem.W.Frag) (L : Locs) : Sp := spPlain L .worst
def sp_from_all (K : PySem.W.Frag) (L : Locs) : Sp := spPlain L .from_
def sp_mores (K : PySem.W.Frag) (L : Locs) : Sp := spPlain L .mores
def sp_state (K : PySem.W.Frag) (L : Locs) : Sp := spPlain L .state
/-- the request, as it stands through the whole call: known to its object, or written -/
def ArgAt (K : PySem.W.Frag) (H : Hp) (a : Addr) (xs : List V) : Prop := (∃ o, H a = some (.frz o (.lst xs))) ∨ ∀ H', SqL K H' a xs
theorem ArgAt.sq {K : PySem.W.Frag} {H : Hp} {a : Addr} {xs : List V} (h : ArgAt K H a xs) : SqL K H a xs := h.elim (fun ⟨o, h⟩ => .inl (.inr ⟨o, h⟩)) fun h => h H
def OkO : Option Abs → Prop
  | none => True
  | some x => Ok x
def sp_end_of_call (K : PySem.W.Frag) (L : Locs) : Sp := fun vs H Q _ => ∃ ca pre c post, vs = [.ref ca, .int ((pre.length : Nat) : Int)] ∧ SqL K H ca ((I (pre ++ enc c ++ post)).map V.int) ∧ RetV (.int (((pre ++ enc c).length : Nat) : Int)) H Q
def sp_answer_of (K : PySem.W.Frag) (L : Locs) : Sp := fun vs H Q _ => ∃ a A s c op rest g, vs = [.ref a, .int ((op : Nat) : Int), .ref g] ∧ enc c = op :: rest ∧ SesAt L.C_Session H a A (datO s) ∧ OkO s ∧ fits c ∧ TabOk L H ∧ H g = some (.lst ((I rest).map V.int)) ∧
  RetC L a A H (datO (Su121.step s c).1) (ansI (Su121.step s c).2) Q
/-- the row's promise; it hangs on the written part alone -/
def spRow (L : Locs) (K : PySem.W.Frag) : Sp := fun vs H Q _ => ∃ ca ns, vs = [.ref ca] ∧ TabOk L H ∧ ArgAt K H ca (ns.map V.int) ∧ PySu121.answers_asked ns = true ∧ ∀ H' p, H' p = some (.lst ((PySu121.answers ns).map V.int)) → Q (.ref p) H'
def sp_answers (K : PySem.W.Frag) (L : Locs) : Sp := spRow L K
end
end FS

set_option maxRecDepth 100000
set_option maxHeartbeats 4000000
/-! # sorted(xs, key=f), f a function of the program's own that gives a pair of whole numbers -/
namespace FS
open PySem PySem.Spec PyProof.Rows L2 Evl LamX NdefX
open SrtO (lexB Srtd Stb lt2)
section
variable {X : Cx} {pins : List (Addr × Obj)} {σ : L2.St} {H H' : Hp} {s s' : Shared}
/-- an object of ours that isn't tracked -/
structure Still (X : Cx) (pins : List (Addr × Obj)) (H : Hp) (s : Shared) (b : Addr) (o : Obj) : Prop where
  get : s.heap.get? b = some o
  fp : FpOk X pins H b
  nfr : b ∉ frs X.stack
theorem nfr_new (I : Inv X pins σ H s) {b : Addr} (hb : s.heap.objs.size ≤ b) : b ∉ frs X.stack := fun z => by
  rcases List.mem_cons.mp (I.stkSub _ z) with e | e
  · have h1 := I.lt
    rw [← e] at h1
    exact Nat.lt_irrefl _ (Nat.lt_of_lt_of_le h1 hb)
  · exact I.nofs hb e
theorem FpOk.off {b : Addr} (f : FpOk X pins H b) (h : H' b = none) : FpOk X pins H' b := ⟨h, f.2⟩
/-- a call leaves them -/
theorem after_still (I : Inv X pins σ H s) {Q : VK} {u : Value} (h : CE X.stack X.prog X.w H s Q u s') : ∃ v H', Inv X pins σ H' s' ∧ RelV v u ∧ Q v H' ∧ ∀ b o, Still X pins H s b o → Still X pins H' s' b o := by
  obtain ⟨v, H', os, bare, un, hok, r, q⟩ := h
  refine ⟨v, H', I.call' os un hok bare fun b z => absurd z (by simp), r, q, fun b o st => ?_⟩
  exact ⟨un.keep b o st.get st.fp.1 st.nfr (by simp), FpOk.off st.fp (un.free b o st.get st.fp.1 (by simp)), st.nfr⟩
/-- what the key gives -/
def kOf (H : Hp) (v : Value) : Int × Int := match v with
  | .ref t => (match H t with
    | some (.tup [.int x, .int y]) => (x, y)
    | _ => (0, 0))
  | _ => (0, 0)
/-- f(z) gives a pair, whatever has become new in the meantime -/
def KeyCall (X : Cx) (pins : List (Addr × Obj)) (σ : L2.St) (H0 : Hp) (f : Addr) (fo : Obj) (zs : List Int) (key : Int → Int × Int) : Prop :=
  ∀ (s : Shared) (H : Hp) (z : Int) (t : Tok), z ∈ zs → Inv X pins σ H s → Ex H0 H → Still X pins H s f fo →
    wpAny (model X.prog X.w) X.A.in1.in1 (call (.ref f) [.int z t]) (fun u s' => ∃ tp H', Inv X pins σ H' s' ∧ Ex H H' ∧ u = .ref tp ∧ H' tp = some (.tup [.int (key z).1, .int (key z).2]) ∧ ∀ b o, Still X pins H s b o → Still X pins H' s' b o) (fun _ _ => False) s
theorem isPair_of (I : Inv X pins σ H s) {tp : Addr} {x y : Int} (h : H tp = some (.tup [.int x, .int y])) : Srt.IsPair s.heap (.ref tp) x y := by
  obtain ⟨_, its2, r2, o, ho, hc, n, hd⟩ := I.hok _ _ h
  obtain ⟨u1, u2, rfl, ri, rj⟩ := vals2 r2
  obtain ⟨t1, rfl⟩ := ri
  obtain ⟨t2, rfl⟩ := rj
  exact ⟨tp, o, t1, t2, n, rfl, ho, hc, hd⟩
/-- the sort itself, the keys known -/
theorem key_end {a kS : Addr} {zs : List Int} {vs kv : List Value} {key : Int → Int × Int} {e1 e2 : Nat} {P : PySem.Fin → Shared → Prop} {E : Value → Shared → Prop} (I : Inv X pins σ H s) (hi : IntsAre vs zs) (hz : zs.length ≤ 1000)
    (ha : Still X pins H s a (seqObj "list" #[] e1)) (hk : Still X pins H s kS (seqObj "list" kv.toArray e2)) (hne : a ≠ kS) (hl : kv.length = vs.length)
    (hkv : ∀ (j : Nat) (z : Int) (k : Value), zs[j]? = some z → kv[j]? = some k → ∃ tp, k = .ref tp ∧ H tp = some (.tup [.int (key z).1, .int (key z).2]))
    (h : ∀ (ms : List Int) (s' : Shared), ms.Perm zs → ms.Pairwise (fun x y => lexB (key y) (key x) = false) → Inv X pins σ (upd H a (.lst (ms.map V.int))) s' → P (.done (.ret .none)) s') :
    wpAny (model X.prog X.w) X.A.in1.in1 (ksk_end a false vs.toArray e1 (.ref kS) kv.toArray) P E s := by
  have hlen := hi.length
  -- the keys by their pairs
  have pk : ∀ k ∈ kv, ∃ z ∈ zs, ∃ tp, k = .ref tp ∧ H tp = some (.tup [.int (key z).1, .int (key z).2]) := fun k hk => by
    obtain ⟨j, hj⟩ := List.mem_iff_getElem?.mp hk
    have jl : j < zs.length := by
      have := (List.getElem?_eq_some_iff.mp hj).1
      omega
    obtain ⟨tp, h1, h2⟩ := hkv j _ k (List.getElem?_eq_getElem jl) hj
    exact ⟨_, List.getElem_mem jl, tp, h1, h2⟩
  have hp : ∀ v ∈ kv, Srt.IsPair s.heap v (kOf H v).1 (kOf H v).2 := fun v hv => by
    obtain ⟨z, _, tp, rfl, h2⟩ := pk v hv
    have e : kOf H (.ref tp) = key z := by
      show (match H tp with | some (.tup [.int x, .int y]) => (x, y) | _ => (0, 0)) = key z
      rw [h2]
    rw [e]
    exact isPair_of I h2
  have hzip : (kv.toArray.zip vs.toArray).toList = kv.zip vs := ksk_zip kv.toArray vs
  -- behind the sort
  have fin : ∀ st : SortSt, Srtd (lt2 fun v u => lexB (kOf H v) (kOf H u)) (arrOf st).toList → Stb (lt2 fun v u => lexB (kOf H v) (kOf H u)) (arrOf st).toList (kv.toArray.zip vs.toArray).toList → failedOf st = none →
      wpAny (model X.prog X.w) X.A.in1.in1 (ksk_tail a false e1 (.ref kS) st) P E s := by
    intro st h1 h2 hf
    rw [hzip] at h2
    have pm := h2.perm
    have each : ∀ p ∈ (arrOf st).toList, kOf H p.1 = key (numOf p.2) ∧ p.2 ∈ vs := fun p hm => by
      obtain ⟨j, hj⟩ := List.mem_iff_getElem?.mp (pm.mem_iff.mp hm)
      obtain ⟨k1, k2⟩ := List.getElem?_zip_eq_some.mp hj
      have jl : j < zs.length := by
        have := (List.getElem?_eq_some_iff.mp k2).1
        omega
      obtain ⟨t, ht⟩ := hi.get j _ (List.getElem?_eq_getElem jl)
      rw [ht] at k2
      obtain ⟨tp, q1, q2⟩ := hkv j _ _ (List.getElem?_eq_getElem jl) k1
      refine ⟨?_, ?_⟩
      · rw [q1, ← Option.some.inj k2]
        show (match H tp with | some (.tup [.int x, .int y]) => (x, y) | _ => (0, 0)) = _
        rw [q2]
        rfl
      · rw [← Option.some.inj k2]
        exact List.mem_of_getElem? ht
    have hz1 : (kv.zip vs).length = vs.length := by rw [List.length_zip, hl, Nat.min_self]
    have l1 : (arrOf st).size = vs.length := by rw [← Array.length_toList, pm.length_eq, hz1]
    have hI : IntsAre ((arrOf st).toList.map Prod.snd) (((arrOf st).toList.map Prod.snd).map numOf) := intsAre_map _ fun v hv => by
      obtain ⟨p, hp', rfl⟩ := List.mem_map.mp hv
      exact hi.all _ (each p hp').2
    have hP : (((arrOf st).toList.map Prod.snd).map numOf).Perm zs := by
      have q := (pm.map Prod.snd).map numOf
      rw [List.map_snd_zip (by omega), hi.nums] at q
      exact q
    have hO : (((arrOf st).toList.map Prod.snd).map numOf).Pairwise (fun x y => lexB (key y) (key x) = false) := by
      rw [List.pairwise_map, List.pairwise_map]
      refine h1.imp_of_mem fun {p q} hp' hq' hr => ?_
      have hr' : lexB (kOf H q.1) (kOf H p.1) = false := hr
      rw [(each p hp').1, (each q hq').1] at hr'
      exact hr'
    unfold ksk_tail
    try dsimp only
    have na1 : (s.heap.update kS (Obj.mapSeq fun _ => (#[] : Array Value))).get? a = some (seqObj "list" #[] e1) := (Heap.get?_update_ne _ _ _ _ hne).trans ha.get
    refine wpAny_bind (listUpdate_at hk.get rfl ?_ (by rw [List.size_toArray, sizeLine_eq]; omega) (Nat.zero_le _))
    refine wpAny_bind (wpAny_letGo ?_)
    refine wpAny_bind (seqEpoch_at na1 rfl ?_)
    refine wpAny_bind (listUpdate_at na1 rfl ?_ (Nat.zero_le _) (by simp only [Bool.false_eq_true, if_false, Array.size_map]; rw [l1, sizeLine_eq]; omega))
    rw [hf]
    simp only [bne_self_eq_false, Bool.false_eq_true, if_false]
    refine wpAny_pure (h _ _ hP hO ?_)
    have I1 : Inv X pins σ H { s with heap := s.heap.update kS (Obj.mapSeq fun _ => (#[] : Array Value)), toks := s.toks } := I.turned (it := kS) (fun b o hb e => (Heap.get?_update_ne _ _ _ _ hb).trans e) hk.fp.1 hk.fp.2.1 hk.fp.2.2.2.1 hk.fp.2.2.2.2.1 hk.fp.2.2.2.2.2
    obtain ⟨c, hc⟩ : ∃ c, ((s.heap.update kS (Obj.mapSeq fun _ => (#[] : Array Value))).update a (Obj.mapSeq fun _ => (arrOf st).map (·.2))).get? a = some (seqObj "list" ((arrOf st).map (·.2)) c) := ⟨_, get?_update_seq na1 fun _ => (arrOf st).map (·.2)⟩
    have ob1 : ObjOk X.prog X.w (upd H a (.lst ((((arrOf st).toList.map Prod.snd).map numOf).map V.int))) ((s.heap.update kS (Obj.mapSeq fun _ => (#[] : Array Value))).update a (Obj.mapSeq fun _ => (arrOf st).map (·.2))) a (.lst ((((arrOf st).toList.map Prod.snd).map numOf).map V.int)) := by
      refine ⟨?_, (arrOf st).toList.map Prod.snd, c, vals_of_ints hI, ?_⟩
      · rw [List.length_map, hP.length_eq, sizeLine_eq]; omega
      · rw [hc]
        congr 3
        apply Array.ext'
        rw [Array.toList_map]
    have I2 := Inv.take (t' := s.toks) I1 (fun b ob hb e => (Heap.get?_update_ne _ _ _ _ hb).trans e) ha.fp ob1
    exact I2
  unfold ksk_end
  try dsimp only
  rw [if_neg (by decide)]
  by_cases h2 : vs.toArray.size < 2
  · rw [if_pos h2, if_pos h2]
    refine wpAny_bind (wpAny_pure ?_)
    rw [StateT.run_pure]
    refine wpAny_bind (wpAny_pure ?_)
    try dsimp only
    refine fin (SortSt.mk' general' (kv.toArray.zip vs.toArray) #[] 7 none) ?_ (Stb.refl _) rfl
    have e : (arrOf (SortSt.mk' general' (kv.toArray.zip vs.toArray) #[] 7 none)).toList = kv.zip vs := hzip
    rw [e]
    have hs : (kv.zip vs).length < 2 := by
      rw [List.size_toArray] at h2
      rw [List.length_zip, hl, Nat.min_self]
      exact h2
    match hq : kv.zip vs, hs with
    | [], _ => exact List.Pairwise.nil
    | [p], _ => exact List.pairwise_singleton _ _
    | _ :: _ :: _, hs => exact absurd hs (by rw [List.length_cons, List.length_cons]; omega)
  · rw [if_neg h2, if_neg h2]
    rw [List.size_toArray] at h2
    obtain ⟨κ, hkind, hT⟩ := (SrtO.pairs_sortableO (prog := X.prog) (w := X.w) (A := X.A.in1.in1) (s := s) (a := a) (vs := kv) (k := kOf H) (by omega) hp fun o e => by
      have e' : some o = some (seqObj "list" #[] e1) := e.symm.trans ha.get
      cases e'
      exact fun c => absurd (Value.type.inj c) (by decide)) s.heap fun b o _ e => e
    refine wpAny_bind (hkind _ _ ?_)
    have hall : SrtO.AllL (fun p : Keyed => p.1 ∈ kv) (kv.toArray.zip vs.toArray).toList := fun p hm => by
      rw [hzip] at hm
      exact (List.of_mem_zip hm).1
    refine wpAny_bind (wpAny_mono (SrtO.wpS_sortO (st0 := SortSt.mk' κ (kv.toArray.zip vs.toArray) #[] 7 none)
      (Q := fun _ st' => Srtd (lt2 fun v u => lexB (kOf H v) (kOf H u)) (arrOf st').toList ∧ Stb (lt2 fun v u => lexB (kOf H v) (kOf H u)) (arrOf st').toList (kv.toArray.zip vs.toArray).toList ∧ failedOf st' = none) (SrtO.swo2 (SrtO.swo_lex (kOf H))) hT rfl hall rfl rfl fun st' a1 a2 a3 => ⟨a1, a2, a3⟩) ?_ fun _ _ e => e)
    rintro ⟨⟨⟩, st'⟩ s' ⟨rfl, hp1, hp2, hf⟩
    try dsimp only
    exact fin st' hp1 hp2 hf
end
end FS

set_option maxRecDepth 100000
set_option maxHeartbeats 4000000
namespace FS
open PySem PySem.Spec PyProof.Rows L2 Evl LamX NdefX
open SrtO (lexB Srtd Stb lt2)
section
variable {X : Cx} {pins : List (Addr × Obj)} {σ : L2.St} {H H' : Hp} {s s' : Shared}
theorem ne_succ {a n : Nat} (h : a < n) : a ≠ n + 1 := by omega
theorem Still.kept {b : Addr} {o : Obj} {h' : Heap} {t' : Nat} (st : Still X pins H s b o) (k : s.heap.get? b = some o → h'.get? b = some o) : Still X pins H { s with heap := h', toks := t' } b o := ⟨k st.get, st.fp, st.nfr⟩
/-- list.sort(key=f) on our own list -/
theorem key_sort {a f : Addr} {fo : Obj} {zs : List Int} {vs : List Value} {key : Int → Int × Int} {n : Nat} {P : PySem.Fin → Shared → Prop} {E : Value → Shared → Prop} (I : Inv X pins σ H s) (hi : IntsAre vs zs) (hz : zs.length ≤ 1000)
    (ha : Still X pins H s a (seqObj "list" vs.toArray n)) (hf : Still X pins H s f fo) (hne : f ≠ a) (kc : KeyCall X pins σ H f fo zs key)
    (h : ∀ (ms : List Int) (H' : Hp) (s' : Shared), ms.Perm zs → ms.Pairwise (fun x y => lexB (key y) (key x) = false) → Ex H H' → H' a = none → Inv X pins σ (upd H' a (.lst (ms.map V.int))) s' → P (.done (.ret .none)) s') :
    wpAny (model X.prog X.w) X.A.in1.in1 (ksk_tree a (.ref f) false) P E s := by
  have hlen := hi.length
  have haS : a < s.heap.objs.size := Heap.lt_size ha.get
  obtain ⟨e1, ho1⟩ : ∃ e1, (s.heap.update a (Obj.mapSeq fun _ => (#[] : Array Value))).get? a = some (seqObj "list" #[] e1) := ⟨_, get?_update_seq ha.get fun _ => #[]⟩
  have hkS : ((s.heap.update a (Obj.mapSeq fun _ => (#[] : Array Value))).push (seqObj "tuple" vs.toArray 0)).objs.size = s.heap.objs.size + 1 := by rw [size_push', Heap.size_update]
  unfold ksk_tree
  refine wpAny_bind (listItems_at ha.get rfl ?_)
  refine wpAny_bind (listUpdate_at ha.get rfl ?_ (by rw [List.size_toArray, sizeLine_eq]; omega) (Nat.zero_le _))
  refine wpAny_bind (seqEpoch_at ho1 rfl ?_)
  refine wpAny_bind (wpAny_newTuple ?_ (by show vs.length ≤ _; rw [sizeLine_eq]; omega))
  refine wpAny_bind (wpAny_newList ?_ (Nat.zero_le _))
  refine wpAny_holding ?_
  show wpAny (model X.prog X.w) X.A.in1.in1 (ksk_rest a (.ref f) false vs.toArray e1 (.ref ((s.heap.update a (Obj.mapSeq fun _ => (#[] : Array Value))).push (seqObj "tuple" vs.toArray 0)).objs.size)) P E { s with heap := ((s.heap.update a (Obj.mapSeq fun _ => (#[] : Array Value))).push (seqObj "tuple" vs.toArray 0)).push (seqObj "list" #[] 0) }
  have kp : ∀ b o, b ≠ a → s.heap.get? b = some o → (((s.heap.update a (Obj.mapSeq fun _ => (#[] : Array Value))).push (seqObj "tuple" vs.toArray 0)).push (seqObj "list" #[] 0)).get? b = some o := fun b o hb e =>
    Heap.get?_push_of_some _ (Heap.get?_push_of_some _ ((Heap.get?_update_ne _ _ _ _ hb).trans e))
  have ga : (((s.heap.update a (Obj.mapSeq fun _ => (#[] : Array Value))).push (seqObj "tuple" vs.toArray 0)).push (seqObj "list" #[] 0)).get? a = some (seqObj "list" #[] e1) := Heap.get?_push_of_some _ (Heap.get?_push_of_some _ ho1)
  have gk : (((s.heap.update a (Obj.mapSeq fun _ => (#[] : Array Value))).push (seqObj "tuple" vs.toArray 0)).push (seqObj "list" #[] 0)).get? (s.heap.objs.size + 1) = some (seqObj "list" #[] 0) := by
    rw [← hkS]
    exact Heap.get?_push_size _ rfl
  rw [hkS]
  generalize ((s.heap.update a (Obj.mapSeq fun _ => (#[] : Array Value))).push (seqObj "tuple" vs.toArray 0)).push (seqObj "list" #[] 0) = h1 at kp ga gk ⊢
  have I1 : Inv X pins σ H { s with heap := h1, toks := s.toks } := I.turned (it := a) kp ha.fp.1 ha.fp.2.1 ha.fp.2.2.2.1 ha.fp.2.2.2.2.1 ha.fp.2.2.2.2.2
  have hkn : s.heap.objs.size ≤ s.heap.objs.size + 1 := Nat.le_succ _
  have nk : H (s.heap.objs.size + 1) = none := I.hok.fresh hkn
  have sk : Still X pins H { s with heap := h1, toks := s.toks } (s.heap.objs.size + 1) (seqObj "list" (#[] : Array Value) 0) := ⟨gk, I.fpOk hkn nk, nfr_new I hkn⟩
  have sa : Still X pins H { s with heap := h1, toks := s.toks } a (seqObj "list" #[] e1) := ⟨ga, ha.fp, ha.nfr⟩
  have sf : Still X pins H { s with heap := h1, toks := s.toks } f fo := ⟨kp f fo hne hf.get, hf.fp, hf.nfr⟩
  have fk : f ≠ s.heap.objs.size + 1 := ne_succ (Heap.lt_size hf.get)
  have ak : a ≠ s.heap.objs.size + 1 := ne_succ haS
  generalize s.heap.objs.size + 1 = kS at gk nk sk fk ak ⊢
  unfold ksk_rest
  refine wpAny_bind (wpAny_rule ?_)
  first
    | rw [List.forIn_toArray]
    | (rw [← Array.forIn_toList]; simp only [List.toList_toArray])
    | rw [← Array.forIn_toList]
  refine wpAny_bind (ksk_fold (fun i s' => ∃ H' kv e, Inv X pins σ H' s' ∧ Ex H H' ∧ Still X pins H' s' a (seqObj "list" #[] e1) ∧ Still X pins H' s' f fo ∧ Still X pins H' s' kS (seqObj "list" (kv : List Value).toArray e) ∧ kv.length = i ∧
      ∀ (j : Nat) (z : Int) (k : Value), zs[j]? = some z → kv[j]? = some k → ∃ tp, k = .ref tp ∧ H' tp = some (.tup [.int (key z).1, .int (key z).2])) vs 0 _
    ⟨H, [], 0, I1, Ex.refl H, sa, sf, sk, rfl, fun j z k _ hk => by simp at hk⟩ ?step ?done)
  case step =>
    rintro j x s' hx ⟨H', kv, e, I', ex, sa', sf', sk', hj, hkv⟩
    simp only [Nat.zero_add] at hj ⊢
    have jl : j < zs.length := by
      have := (List.getElem?_eq_some_iff.mp hx).1
      omega
    obtain ⟨t, ht⟩ := hi.get j _ (List.getElem?_eq_getElem jl)
    rw [ht] at hx
    have ex0 := Option.some.inj hx
    subst ex0
    refine wpAny_bind (wpAny_attempt (wpAny_mono (kc s' H' _ t (List.getElem_mem jl) I' ex sf') (fun u s'' hq => ?_) fun _ _ hF => hF.elim))
    obtain ⟨tp, H2, I2, ex2, rfl, h2, stl⟩ := hq
    have sa2 := stl _ _ sa'
    have sf2 := stl _ _ sf'
    have sk2 := stl _ _ sk'
    try dsimp only
    obtain ⟨c2, hc2⟩ : ∃ c2, (s''.heap.update kS (Obj.mapSeq (·.push (.ref tp)))).get? kS = some (seqObj "list" (kv.toArray.push (.ref tp)) c2) := ⟨_, get?_update_seq sk2.get (·.push (.ref tp))⟩
    have kl : kv.length ≤ 1000 := by omega
    refine wpAny_bind (listUpdate_at sk2.get rfl ?_ (by rw [List.size_toArray, sizeLine_eq]; omega) (Nat.le_trans (Nat.le_of_eq (Array.size_push ..)) (by rw [List.size_toArray, sizeLine_eq]; omega)))
    have kp2 : ∀ b o, b ≠ kS → s''.heap.get? b = some o → (s''.heap.update kS (Obj.mapSeq (·.push (.ref tp)))).get? b = some o := fun b o hb e => (Heap.get?_update_ne _ _ _ _ hb).trans e
    have I3 : Inv X pins σ H2 { s'' with heap := s''.heap.update kS (Obj.mapSeq (·.push (.ref tp))), toks := s''.toks } := I2.turned (it := kS) kp2 sk2.fp.1 sk2.fp.2.1 sk2.fp.2.2.2.1 sk2.fp.2.2.2.2.1 sk2.fp.2.2.2.2.2
    refine wpAny_pure ⟨rfl, H2, kv ++ [.ref tp], c2, I3, ex.trans ex2, ⟨kp2 _ _ ak sa2.get, sa2.fp, sa2.nfr⟩, ⟨kp2 _ _ fk sf2.get, sf2.fp, sf2.nfr⟩, ⟨?_, sk2.fp, sk2.nfr⟩, by rw [List.length_append, hj]; rfl, fun i z k hz1 hk1 => ?_⟩
    · show (s''.heap.update kS (Obj.mapSeq (·.push (.ref tp)))).get? kS = _
      rw [hc2]
      congr 3
      simp
    · by_cases hi2 : i < kv.length
      · rw [List.getElem?_append_left hi2] at hk1
        obtain ⟨tp', q1, q2⟩ := hkv i z k hz1 hk1
        exact ⟨tp', q1, ex2 _ _ q2⟩
      · have il : i < (kv ++ [Value.ref tp]).length := (List.getElem?_eq_some_iff.mp hk1).1
        rw [List.length_append] at il
        have ie : i = j := by
          have : il = il := rfl
          simp at il
          omega
        subst ie
        rw [List.getElem?_append_right (by omega), hj, Nat.sub_self] at hk1
        rw [List.getElem?_eq_getElem jl] at hz1
        have z1 := Option.some.inj hz1
        have k1 : Value.ref tp = k := Option.some.inj hk1
        subst z1
        exact ⟨tp, k1.symm, h2⟩
  case done =>
    rintro s' ⟨H', kv, e, I', ex, sa', sf', sk', hj, hkv⟩
    rw [Nat.zero_add] at hj
    try dsimp only
    refine wpAny_bind (listItems_at sk'.get rfl ?_)
    exact key_end I' hi hz sa' sk' ak hj hkv fun ms s2 p1 p2 I2 => h ms H' s2 p1 p2 ex sa'.fp.1 I2
/-- sorted(l, key=f) -/
theorem key_sorted {l f : Addr} {fo : Obj} {zs : List Int} {key : Int → Int × Int} {E : Value → Shared → Prop} {Q : Value → Shared → Prop} (I : Inv X pins σ H s) (hs : SqL X.K H l (zs.map V.int)) (hz : zs.length ≤ 1000) (hf : Still X pins H s f fo) (kc : KeyCall X pins σ H f fo zs key)
    (h : ∀ (ms : List Int) (p : Addr) (H' : Hp) (s' : Shared), ms.Perm zs → ms.Pairwise (fun x y => lexB (key y) (key x) = false) → Ex H H' → H' p = none → Inv X pins σ (upd H' p (.lst (ms.map V.int))) s' → Q (.ref p) s') :
    wpAny (model X.prog X.w) X.A (call (.builtin "sorted") [.ref l] [(Str.ofString "key", .ref f)]) Q E s := by
  obtain ⟨its, rv, hl, hzl⟩ := I.list hs
  have hi := rv.ints
  have hlen := hi.length
  refine call_function_entry_kw kind_sorted plain_sorted entry_sorted (ksk_s1 _ _) ?_
  unfold Builtin.«sorted»
  refine wpAny_bind (m := checkCount "sorted" 1 1 _) (wpAny_pure ?_)
  refine wpAny_bind (collect_list hl.isList ?_ (by rw [sizeLine_eq]; omega))
  refine wpAny_bind (wpAny_newList ?_ (by rw [sizeLine_eq]; omega))
  have hsz : ((s.heap.push (seqObj "list" #[] 0)).update s.heap.objs.size (Obj.mapSeq (· ++ its.toArray))).objs.size = s.heap.objs.size + 1 := by
    rw [Heap.size_update, size_push']
  have hoL : (((s.heap.push (seqObj "list" #[] 0)).update s.heap.objs.size (Obj.mapSeq (· ++ its.toArray))).push (seqObj "list" its.toArray 0)).get? (s.heap.objs.size + 1) = some (seqObj "list" its.toArray 0) := by
    rw [← hsz]; exact Heap.get?_push_size _ rfl
  have keep : ∀ b o, s.heap.get? b = some o → (((s.heap.push (seqObj "list" #[] 0)).update s.heap.objs.size (Obj.mapSeq (· ++ its.toArray))).push (seqObj "list" its.toArray 0)).get? b = some o := fun b o q => by
    have hlt : b < s.heap.objs.size := Heap.lt_size q
    rw [Heap.get?_push_ne _ _ _ (by rw [hsz]; exact Nat.ne_of_lt (Nat.lt_succ_of_lt hlt)), Heap.get?_update_ne _ _ _ _ (Nat.ne_of_lt hlt), Heap.get?_push_ne _ _ _ (Nat.ne_of_lt hlt)]
    exact q
  show wpAny _ _ _ _ _ { s with heap := ((s.heap.push (seqObj "list" #[] 0)).update s.heap.objs.size (Obj.mapSeq (· ++ its.toArray))).push (seqObj "list" its.toArray 0) }
  rw [hsz]
  have I1 : Inv X pins σ H { s with heap := ((s.heap.push (seqObj "list" #[] 0)).update s.heap.objs.size (Obj.mapSeq (· ++ its.toArray))).push (seqObj "list" its.toArray 0), toks := s.toks } := I.kept keep
  have hkn : s.heap.objs.size ≤ s.heap.objs.size + 1 := Nat.le_succ _
  have nk : H (s.heap.objs.size + 1) = none := I.hok.fresh hkn
  refine wpAny_bind (wpAny_holding (wpAny_call_entry_kw slot_list_sort ⟨_, hoL, rfl⟩ entry_list_sort ?body (ksk_l1 _ _)))
  case body =>
    show wpAny (model X.prog X.w) X.A.in1.in1 (Builtin.«list.sort» ⟨[.ref (s.heap.objs.size + 1)], [(Str.ofString "key", .ref f)]⟩) _ _ _
    rw [ksk_t1]
    refine key_sort I1 hi hz ⟨hoL, I.fpOk hkn nk, nfr_new I hkn⟩ ⟨keep _ _ hf.get, hf.fp, hf.nfr⟩ (ne_succ (Heap.lt_size hf.get)) kc fun ms H' s' p1 p2 ex na I2 => ⟨_, rfl, ?_⟩
    exact wpAny_pure ⟨_, rfl, h ms _ H' s' p1 p2 ex na I2⟩
end
/-! ### a lambda with parameters, called -/
section
variable {CX : CXT} {P : Program} {w : World} {K : PySem.W.Frag} {mg : Str → Option Value} {base : Heap} {N ps fr : List Str} {F : NF} {f : Addr} {k : Nat}
theorem lam_code {A : Around} {outer : List Env} {s : Shared} {H : Hp} {us : List Value} {vs : List V} {ws : List (Option V)} {Q : VK} {E : XK} {body : Expr} {pm ctv : Value} {tb : TE} (S : NScope N ps fr F.scope) (hr : Room (k + 1) A) (e0 : Env0 P w K mg base A outer s H)
    (hf : s.heap.get? f = some (PySem.W.kla_obj F.name F.qual F.params body F.scope F.cl pm F.c ctv)) (hc : H F.c = some (CodeO F.c F.qual)) (C : CellsAt F.cl fr ws s.heap H) (r : Vals vs us) (hl : vs.length = ps.length)
    (hb : bindArgs (PySem.W.kla_fn F.name F.qual F.params body F.scope F.cl pm (.ref F.c) ctv) ⟨us, []⟩ = pure (ps.zip us))
    (hbody : ∀ (A : Around) (outer : List Env) (s : Shared) (H : Hp), Room k (A.deeper (envF F f s.heap.objs.size)) → PE (ncx CX P w K mg base N F f A outer s H E) body tb) (q : tb (startF N vs ws) H Q) :
    codeAny (model P w) A (.call (.ref f) ⟨us, []⟩) (CR CX outer P w H s Q E) s := by
  have lim : s.heap.NoLimit := e0.mod.nolimit.keeps fun b o e => (e0.bs b o e).1
  refine PySem.W.kla_callFunE hr.depth hf rfl S.co S.gen rfl (codeO_at e0.hok hc) ?_
  rw [hb]
  refine wpAny_pure (wpAny_newFunctionEnv S.nocell (fun ⟨n, _⟩ hy => S.par n (List.of_mem_zip hy).1) (fun h₁ hns hsb => ⟨lim.fresh _ hsb, ?_⟩) S.kind)
  show codeAny _ _ (.expr body (envF F f s.heap.objs.size)) _ _
  have kp : ∀ b o, s.heap.get? b = some o → h₁.get? b = some o := fun b o e => hsb.extBut b o (Nat.ne_of_lt (Heap.lt_size e)) (Heap.get?_push_of_some _ e)
  have J : Inv (ncx CX P w K mg base N F f A outer s H E) [] (startF N vs ws) H { s with heap := h₁, toks := s.toks + (ps.zip us).length } := inv_startN S hr.hd e0 hl r C hns kp
  refine PySem.W.kla_codeExpr (wpAny_mono ((hbody A outer s H (hr.deeper _)).run [] _ _ H Q J q) (fun v s' hq => ?_) fun e s' hq => hq)
  obtain ⟨w', H', J', rv, q⟩ := hq
  exact ⟨w', H', J'.os, J'.bare, J'.base, J'.hok, rv, q⟩
end
end FS

set_option maxRecDepth 100000
set_option maxHeartbeats 4000000
namespace FS
open PySem PySem.Spec PyProof.Rows L2 Evl LamX NdefX
open SrtO (lexB Srtd Stb lt2)
/-- sorted(xs, key=lambda p: (-ways.sizes[p], p)) -/
def tSortKey (K : PySem.W.Frag) (L : Locs) (ta : TA) : TE := fun σ H Q => ta σ H fun vs H1 => ∃ (a : Addr) (ns : List Nat) (w : Addr) (B : WAdr) (up : List Nat) (f : Nat) (o : List Nat), vs = [.ref a] ∧ H1 a = some (nl ns) ∧ ns.length ≤ 1000 ∧ σ[0]? = some (some (.ref w)) ∧ WaysAt L.C_Ways H1 w B up f o ∧
  (∀ z ∈ ns, z < up.length + 1) ∧ TabOk L H1 ∧ ∀ ms p H2, ms.Perm ns → ms.Pairwise (fun a b => ¬ Fst (sz up (up.length + 1) f) b a) → EN L H1 H2 → Nw H1 p → H2 p = some (nl ms) → Q (.ref p) H2
/-- the lambda's names: its parameter, what it captured -/
abbrev N_key : List Str := ["p", "ways"]
abbrev P_key : List Str := ["p"]
abbrev F_key : List Str := ["ways"]
/-- what the key reads -/
def tKey (K : PySem.W.Frag) : TE := tTup (tCons (tUn (rU fun i => .int (-i)) (tOp (rIxL K) (tFld K (tVar 1) "sizes") (tVar 0))) (tCons (tVar 0) tNil))
section
variable {K : PySem.W.Frag} {mg : Str → Option Value} {L : Locs}
theorem wfs_toward {B : WAdr} : (wfs B).lookup ("toward" : Str) = some (.ref B.t) := lk_here
theorem wfs_depths {B : WAdr} : (wfs B).lookup ("depths" : Str) = some (.ref B.d) := (lk_past (by decide +kernel)).trans lk_here
theorem wfs_sizes {B : WAdr} : (wfs B).lookup ("sizes" : Str) = some (.ref B.s) := (lk_past (by decide +kernel)).trans ((lk_past (by decide +kernel)).trans lk_here)
theorem wfs_order {B : WAdr} : (wfs B).lookup ("order" : Str) = some (.ref B.o) := (lk_past (by decide +kernel)).trans ((lk_past (by decide +kernel)).trans ((lk_past (by decide +kernel)).trans lk_here))
theorem WG.mono {C : Addr} {H H' : Hp} {w : Addr} {B : WAdr} {tl : List V} {dl sl ol : List Nat} (g : WG C H w B tl dl sl ol) (e : Ex H H') : WG C H' w B tl dl sl ol := ⟨e _ _ g.ins, e _ _ g.tl, e _ _ g.dl, e _ _ g.sl, e _ _ g.ol, g.td, g.ts, g.to, g.ds, g.do_, g.so⟩
theorem WaysAt.mono {C : Addr} {H H' : Hp} {w : Addr} {B : WAdr} {up : List Nat} {f : Nat} {o : List Nat} (g : WaysAt C H w B up f o) (e : Ex H H') : WaysAt C H' w B up f o := ⟨g.g.mono e, g.ord, g.n12⟩
theorem WaysAt.monoN {C : Addr} {H H' : Hp} {w : Addr} {B : WAdr} {up : List Nat} {f : Nat} {o : List Nat} (g : WaysAt C H w B up f o) (e : EN L H H') : WaysAt C H' w B up f o :=
  ⟨⟨e.keep _ _ g.g.ins nt_ins, e.keep _ _ g.g.tl nt_lst, e.keep _ _ g.g.dl nt_lst, e.keep _ _ g.g.sl nt_lst, e.keep _ _ g.g.ol nt_lst, g.g.td, g.g.ts, g.g.to, g.g.ds, g.g.do_, g.g.so⟩, g.ord, g.n12⟩
theorem range_map_at {α : Type} (g : Nat → α) {n p : Nat} (hp : p < n) : ((List.range n).map g)[p]? = some (g p) := by
  rw [List.getElem?_map, List.getElem?_range hp]
  rfl
theorem nl_at {l : List Nat} {p v : Nat} (h : l[p]? = some v) : ((I l).map V.int)[p]? = some (.int (v : Int)) := by
  unfold I
  rw [List.map_map, List.getElem?_map, h]
  rfl
variable {σ : L2.St} {H : Hp} {w : Addr} {B : WAdr} {tl : List V} {dl sl ol : List Nat} {ta : TE}
theorem ev_toward (T : Txt K mg L) (g : WG L.C_Ways H w B tl dl sl ol) (h : Ev ta σ H (.ref w)) : Ev (tFld K ta "toward") σ H (.ref B.t) := ev_fld h g.ins T.cl_Ways T.a_Ways_toward wfs_toward
theorem ev_depths (T : Txt K mg L) (g : WG L.C_Ways H w B tl dl sl ol) (h : Ev ta σ H (.ref w)) : Ev (tFld K ta "depths") σ H (.ref B.d) := ev_fld h g.ins T.cl_Ways T.a_Ways_depths wfs_depths
theorem ev_sizes (T : Txt K mg L) (g : WG L.C_Ways H w B tl dl sl ol) (h : Ev ta σ H (.ref w)) : Ev (tFld K ta "sizes") σ H (.ref B.s) := ev_fld h g.ins T.cl_Ways T.a_Ways_sizes wfs_sizes
theorem ev_order (T : Txt K mg L) (g : WG L.C_Ways H w B tl dl sl ol) (h : Ev ta σ H (.ref w)) : Ev (tFld K ta "order") σ H (.ref B.o) := ev_fld h g.ins T.cl_Ways T.a_Ways_order wfs_order
end
/-- the key's order -/
theorem key_fst {S : Nat → Nat} {a b : Nat} (h : lexB (-((S b : Nat) : Int), (b : Int)) (-((S a : Nat) : Int), (a : Int)) = false) : ¬ Fst S b a := by
  have := SrtO.lexB_no.mp h
  unfold Fst
  intro z
  apply this
  show -((S b : Nat) : Int) < -((S a : Nat) : Int) ∨ (-((S b : Nat) : Int) = -((S a : Nat) : Int) ∧ (b : Int) < (a : Int))
  omega
/-- what's known where the sort stands: the def's code object and its table -/
structure SortAt (K : PySem.W.Frag) (mg : Str → Option Value) (base : Heap) (L : Locs) : Prop where
  tb : TabB base mg L.cod L.tab
/-! ### the lambda's object, new -/
section
variable {X : Cx} {pins : List (Addr × Obj)} {σ : L2.St} {H : Hp} {s : Shared}
/-- one more code object in a table -/
theorem tab_more {P c : Addr} {q : Str} {ps : Array Value} {pos : Pos} (hP : H P = some (.tbl ps)) (nc : H c = none) (ht : TriplesOk ps.toList) (ha : ∀ (p' : Pos) (cv : Value), codeAmong p' ps.toList = some cv → ∃ d, cv = .ref d ∧ H d = some (CodeO d q)) :
    TabS (upd (upd H P (.tbl (ps ++ #[rawInt pos.line, rawInt pos.col, .ref c]))) c (CodeO c q)) P q := by
  have nPc : P ≠ c := ne_of_none hP nc
  have el : (ps ++ #[rawInt pos.line, rawInt pos.col, Value.ref c]).toList = ps.toList ++ [rawInt pos.line, rawInt pos.col, Value.ref c] := Array.toList_append
  refine ⟨_, (upd_ne nPc).trans upd_same, el ▸ PySem.TriplesOk_snoc _ _ _ _ ht, fun p' cv hcv => ?_⟩
  rw [el] at hcv
  rcases among_app _ ht hcv with old | new
  · obtain ⟨d, e1, e2⟩ := ha p' cv old
    have dP : d ≠ P := fun z => by
      rw [z, hP] at e2
      exact codeO_ne ps (Option.some.inj e2).symm
    exact ⟨d, e1, (upd_ne (ne_of_none e2 nc)).trans ((upd_ne dP).trans e2)⟩
  · exact ⟨c, new, upd_same⟩
theorem lam_new {P c : Addr} {q : Str} {params : Arguments} {body : Expr} {scope : Scope} {pos : Pos} {E Q : Value → Shared → Prop} (I : Inv X pins σ H s) (tb : TabB X.base X.mg c P) (hcode : X.env.code = .ref c) (hT : TabS H P q) (hq : X.env.qual ++ "<lambda>" = q)
    (hdef : defaultsOf params X.env = ([], [])) (hfree : ∀ y ∈ scope.names, y.2 = .free → ∃ c, X.env.cells.lookup y.1 = some c)
    (h : ∀ (fo d : Addr) (pm ctv : Value) (H1 : Hp) (s1 : Shared), Inv X pins σ H1 s1 → (∀ b o, H b = some o → NT o → H1 b = some o) → TabS H1 P q → H1 d = some (CodeO d q) →
      Still X pins H1 s1 fo (PySem.W.kla_obj "<lambda>" q params body scope (cloFrom X.env.cells scope.names []) pm d ctv) → Q (.ref fo) s1) :
    wpAny (model X.prog X.w) X.A (eval (.Lambda params body scope pos) X.env) Q E s := by
  have hT0 := hT
  obtain ⟨ps, hP, ht, ha⟩ := hT
  -- the object pushed behind a heap that holds
  have last : ∀ {H1 : Hp} {g : Heap} {tk : Nat} {d : Addr} {pm ctv : Value}, Inv X pins σ H1 { s with heap := g, toks := tk } → (∀ b o, H b = some o → NT o → H1 b = some o) → TabS H1 P q → H1 d = some (CodeO d q) →
      Q (.ref g.objs.size) { s with heap := g.push (PySem.W.kla_obj "<lambda>" q params body scope (cloFrom X.env.cells scope.names []) pm d ctv), toks := tk } := fun {H1 g tk d pm ctv} J k1 k2 k3 =>
    h _ d pm ctv H1 _ (J.kept fun b o e => Heap.get?_push_of_some _ e) k1 k2 k3 ⟨Heap.get?_push_size _ rfl, J.fpOk (Nat.le_refl _) (J.hok.fresh (Nat.le_refl _)), nfr_new J (Nat.le_refl _)⟩
  have atP : s.heap.get? P = some { cls := .none, data := .fields ps } := I.hok P _ hP
  refine PySem.W.kla_eval hdef ?_
  rw [hq]
  cases hc : codeAmong pos ps.toList with
  | some cv =>
    obtain ⟨d, rfl, hd⟩ := ha pos cv hc
    exact PySem.W.kla_makeFunctionHit (mg := X.mg) (closure_ok hfree) I.ok.glob (I.mod.glob.keeps I.bk) hcode (tb.code.keeps I.bk) atP ht hc (tb.bm.keeps I.bk) fun ctv g tk hx _ => last (I.kept hx) (fun b o e _ => e) hT0 hd
  | none =>
    refine PySem.W.kla_makeFunction (mg := X.mg) (closure_ok hfree) I.ok.glob (I.mod.glob.keeps I.bk) hcode (tb.code.keeps I.bk) atP ht hc tb.gP (tb.bm.keeps I.bk) fun d ctv g tk hx hge _ hrec htb => ?_
    obtain ⟨d2, oc, us, t, e2, g1, g2, g3⟩ := hrec
    cases e2
    have nd : H d = none := I.hok.fresh hge
    exact last (inv_table (t' := tk) (more := #[rawInt pos.line, rawInt pos.col, .ref d]) I hP (fun b o hb e => hx b o hb e) htb hge ⟨oc, us, t, g1, g2, g3⟩)
      (fun b o e nt => (upd_ne (ne_of_none e nd)).trans ((upd_ne fun z => nt ps (by rw [z, hP] at e; exact (Option.some.inj e).symm)).trans e)) (tab_more hP nd ht ha) upd_same
end
section
variable {X : Cx} {L : Locs} {k : Nat} {e : Expr} {params : Arguments} {body : Expr} {scope : Scope} {lpos kpos p pos : Pos} {ta : TA}
theorem pe_sortKey (T : Txt X.K X.mg L) (ks : SortAt X.K X.mg X.base L) (hcode : X.env.code = .ref L.cod) (hr : Room (k + 4) X.A) (hg : Gl X "sorted") (hm : X.mg "sorted" = none) (ha : PA X [e] ta)
    (hq : X.env.qual ++ "<lambda>" = tabQ) (hdef : defaultsOf params X.env = ([], [])) (hfree : ∀ y ∈ scope.names, y.2 = .free → X.env.scope.names.lookup y.1 = some .cell ∨ X.env.scope.names.lookup y.1 = some .free)
    (S : NScope N_key P_key F_key scope) (hfr : (("ways" : Str), NameKind.free) ∈ scope.names) (hN : X.N[0]? = some ("ways" : Str))
    (hbind : ∀ (q : Str) (cl : List (Str × Addr)) (pm cv ctv u : Value), bindArgs (PySem.W.kla_fn "<lambda>" q params body scope cl pm cv ctv) ⟨[u], []⟩ = pure [(("p" : Str), u)])
    (hbody : ∀ (F : NF) (f : Addr) (A : Around) (outer : List Env) (s : Shared) (H : Hp), F.scope = scope → PE (ncx C8.CX0 X.prog X.w X.K X.mg X.base N_key F f A outer s H C8.E0) body (tKey X.K))
    (he : backTo pos (starEach [e] X.env) = (false, eval e X.env) :: backTo pos (starEach [] X.env) := by rfl) (hpl : (backTo pos (starEach [e] X.env)).any (·.1) = false := by rfl) :
    PE X (.Call (.Name "sorted" p) [e] [⟨some "key", .Lambda params body scope lpos, kpos⟩] pos) (tSortKey X.K L ta) := by
  refine ⟨fun pins s σ H Q I h => ?_⟩
  refine wpAny_Call_Name_kw (ld_blt (u := .builtin "sorted") I hg hm (by decide +kernel) ?_ (by decide) (by decide))
  refine PyProof.Rows.callWith_kw (thn (ha.run pos pins s σ H _ I h) fun us s1 ⟨vs, H1, I1, r1, a, ns, w, B, up, f, o, ev, hns, hnl, hw0, W, hlt, hT, q⟩ => ?_) he hpl rfl rfl
  subst ev
  obtain ⟨u, rfl, ru⟩ := vals1 r1
  obtain rfl : u = Value.ref a := ru
  show wpAny _ _ (evalAll ((do let v ← eval (.Lambda params body scope lpos) X.env; standAt pos; pure v) :: (backToKw pos (keywordEach [] X.env)).map (·.2))) _ _ s1
  have hfree' : ∀ y ∈ scope.names, y.2 = .free → ∃ c, X.env.cells.lookup y.1 = some c := fun y hy e => (hfree y hy e).elim (fun z => I1.ok.has _ (.inl z)) fun z => I1.ok.has _ (.inr z)
  refine wpAny_evalAll_cons (wpAny_bind (lam_new I1 ks.tb hcode hT hq hdef hfree' fun fo c' pm ctv H2 s2 I2 eN T2 hco st => ?_))
  refine wpAny_bind (wpAny_standAt (wpAny_pure ?_))
  refine wpAny_evalAll_nil ?_
  show wpAny _ _ (call (.builtin "sorted") [.ref a] [(Str.ofString "key", .ref fo)]) _ _ s2
  have en : EN L H1 H2 := ⟨eN, fun _ => T2⟩
  have W2 := W.monoN en
  have hns2 : H2 a = some (nl ns) := en.keep _ _ hns nt_lst
  let F : NF := ⟨"<lambda>", tabQ, params, [], scope, cloFrom X.env.cells scope.names [], c'⟩
  refine key_sorted (fo := PySem.W.kla_obj "<lambda>" tabQ params body scope (cloFrom X.env.cells scope.names []) pm c' ctv) (key := fun z => (-((sz up (up.length + 1) f z.toNat : Nat) : Int), z)) I2 (sq_of hns2) (by rw [I_len]; exact hnl) st ?_ ?_
  · -- the key, called
    intro s3 H3 z t hz I3 ex3 st3
    obtain ⟨z, hz1, rfl⟩ := of_I hz
    have W3 := W2.mono ex3
    have cp : Caps X (cloFrom X.env.cells scope.names []) F_key [0] := Caps.made I3.ok hfree (fun y hy => by rw [List.mem_singleton.mp hy]; exact hfr) (by simp [hN])
    have C := cells_of I3 cp
    have hw : ([0].map (slotAt σ)) = [some (.ref w)] := by
      show [slotAt σ 0] = _
      rw [slotAt_of hw0]
    rw [hw] at C
    refine wpAny_call (codeAny_mono (lam_code (F := F) (k := k + 1) (Q := fun v H' => ∃ tp, v = .ref tp ∧ Ex H3 H' ∧ H' tp = some (.tup [.int (-((sz up (up.length + 1) f z : Nat) : Int)), .int (z : Int)])) (E := C8.E0) (CX := C8.CX0) (tb := tKey X.K) (vs := [.int (z : Int)]) (us := [.int z t]) S (hr.in1.in1) I3.env0.in1.in1 st3.get (ex3 _ _ hco) C (.cons ⟨t, rfl⟩ .nil) rfl (hbind _ _ _ _ _ _) (fun A outer s H _ => hbody F fo A outer s H rfl) ?_) fun r s4 hq => ?_)
    · -- its reading
      have ev : Ev (tOp (rIxL X.K) (tFld X.K (tVar 1) "sizes") (tVar 0)) (startF N_key [.int (z : Int)] [some (.ref w)]) H3 (.int ((sz up (up.length + 1) f z : Nat) : Int)) :=
        ev_op (ev_sizes T W3.g (ev_var rfl)) (ev_var rfl) (rv_ixL (sq_of W3.g.sl) (atI_nat (nl_at (range_map_at _ (hlt z hz1)))))
      have eu : EvU (tKey X.K) (startF N_key [.int (z : Int)] [some (.ref w)]) H3 [.int (-((sz up (up.length + 1) f z : Nat) : Int)), .int (z : Int)] := eu_tup (ea_cons (ev_un ev ru_neg) (ea_cons (ev_var rfl) ea_nil)) (by show 2 ≤ 100000; decide)
      exact eu H3 (Ex.refl _) _ fun tp H4 _ e4 h4 => ⟨tp, rfl, e4, h4⟩
    · cases r with
      | error e => exact hq.elim
      | ok fl =>
        cases fl with
        | ret u =>
          obtain ⟨v, H4, I4, rv, ⟨tp, ev, e4, h4⟩, stl⟩ := after_still I3 hq
          subst ev
          exact ⟨tp, H4, I4, e4, rv, h4, stl⟩
        | next => exact False.elim hq
        | brk => exact False.elim hq
        | cont => exact False.elim hq
  · -- the sorted list
    intro ms p H3 s3 pm' pw ex3 np I3
    obtain ⟨ms', rfl, pm2⟩ : ∃ ms' : List Nat, ms = FS.I ms' ∧ ms'.Perm ns := by
      refine ⟨ms.map Int.toNat, (I_toNat fun z hz => ?_).symm, ?_⟩
      · obtain ⟨n, _, rfl⟩ := of_I (pm'.mem_iff.mp hz)
        omega
      · have := pm'.map Int.toNat
        unfold FS.I at this
        rw [List.map_map] at this
        have e : (Int.toNat ∘ fun (n : Nat) => (n : Int)) = id := by
          funext n
          rfl
        rwa [e, List.map_id] at this
    refine ⟨.ref p, _, I3, rfl, q ms' p _ pm2 ?_ (en.trans (.ex (ex3.trans (Ex.new np)))) ?_ upd_same⟩
    · unfold FS.I at pw
      rw [List.pairwise_map] at pw
      exact pw.imp fun {x y} h => key_fst h
    · exact en.grow _ (Grow.ex ex3 _ (nw_of np))
end
/-- a def whose code object is known -/
structure HasC (K : PySem.W.Frag) (mg : Str → Option Value) (x : Str) (st : Stmt) (ps : List Str) (c : Addr) : Prop where
  ex : ∃ f fd, C8.Def K mg x st f fd ∧ Binds K fd ps [] ∧ fd.code = .ref c
theorem cal0c {P : Program} {w : World} {K : PySem.W.Frag} {mg : Str → Option Value} {base : Heap} {x : Str} {st : Stmt} {f c : Addr} {fd : FuncData} {N ps : List Str} {ds : List Value} {dvs : List V} {k : Nat} {sp : Sp}
    (F : C8.Def K mg x st f fd) (hc : fd.code = .ref c) (b : Binds K fd ps ds) (d : Vals dvs ds) (S : FnScope N ps (C8.fnScope st)) (len : ∀ vs H Q E, sp vs H Q E → vs.length = ps.length)
    (body : ∀ (A : Around) (outer : List Env) (s : Shared) (H : Hp) (vs : List V) (Q : VK) (E : XK), Room k (A.deeper (envOfC x (C8.fnScope st) s.heap.objs.size f (.ref c))) → sp vs H Q E →
      ∃ t, PSs (cxOf C8.CX0 P w K mg base N x (C8.fnScope st) f (.ref c) A outer s H E).nox (C8.fnBody st) t ∧ t { nx := fun _ H' => Q .non H', rt := Q } (start N vs) H) : C8.Cal P w K mg base (k + 1) x sp dvs := by
  obtain ⟨oc, od, dV, kV, doc, pm, an, cdv, ct, osl, e, lk, hcd⟩ := F.fn.ex
  subst e
  have ec : cdv = .ref c := hc
  subst ec
  refine ⟨f, _, ps, ds, fn_of lk hcd S len fun A outer s H vs Q E hr hsp => ?_, F.mgf, F.kp, b, d⟩
  obtain ⟨t, ht, q⟩ := body A outer s H vs Q E hr hsp
  exact ⟨t, ht.nox, q⟩
end FS

set_option maxRecDepth 100000
set_option maxHeartbeats 4000000
namespace FS
open PySem PySem.Spec PyProof.Rows L2 Evl NdefX
def S_PLAIN_CALLS (K : PySem.W.Frag) (L : Locs) (f : Addr) (sp : Sp) : Prop := (f = L.f_begin ∧ sp = sp_begin K L) ∨ (f = L.f_drop ∧ sp = sp_drop K L) ∨ (f = L.f_turn ∧ sp = sp_turn K L) ∨ (f = L.f_again ∧ sp = sp_again K L) ∨ (f = L.f_burns ∧ sp = sp_burns K L) ∨ (f = L.f_saved ∧ sp = sp_saved K L) ∨ (f = L.f_safe ∧ sp = sp_safe K L) ∨ (f = L.f_state ∧ sp = sp_state K L)
def S_NUMBER_CALLS (K : PySem.W.Frag) (L : Locs) (f : Addr) (sp : Sp) : Prop := (f = L.f_join ∧ sp = sp_join K L) ∨ (f = L.f_fire ∧ sp = sp_fire K L) ∨ (f = L.f_each ∧ sp = sp_each K L) ∨ (f = L.f_save ∧ sp = sp_save K L)
def S_PLAIN_QUESTIONS (K : PySem.W.Frag) (L : Locs) (f : Addr) (sp : Sp) : Prop := (f = L.f_best ∧ sp = sp_best K L) ∨ (f = L.f_greedy ∧ sp = sp_greedy K L) ∨ (f = L.f_worst ∧ sp = sp_worst K L) ∨ (f = L.f_from_all ∧ sp = sp_from_all K L) ∨ (f = L.f_mores ∧ sp = sp_mores K L)
def S_NUMBER_QUESTIONS (K : PySem.W.Frag) (L : Locs) (f : Addr) (sp : Sp) : Prop := (f = L.f_size ∧ sp = sp_size K L) ∨ (f = L.f_deep ∧ sp = sp_deep K L) ∨ (f = L.f_level ∧ sp = sp_level K L)
def S_ROW_QUESTIONS (K : PySem.W.Frag) (L : Locs) (f : Addr) (sp : Sp) : Prop := (f = L.f_run ∧ sp = sp_run K L) ∨ (f = L.f_kept ∧ sp = sp_kept K L)
def t_Ways_init (K : PySem.W.Frag) (L : Locs) : TS :=
  (tSeq (sFld K (tVar 0) (tLc (iRng1 (tCons (tVar 1) tNil)) (gName 3) tYes (tC .non) [3]) "toward")
    (tSeq (sFld K (tVar 0) (tLc (iRng1 (tCons (tVar 1) tNil)) (gName 3) tYes (tC (.int 0)) [3]) "depths")
    (tSeq (sFld K (tVar 0) (tLc (iRng1 (tCons (tVar 1) tNil)) (gName 3) tYes (tC (.int 1)) [3]) "sizes")
    (sFld K (tVar 0) (tLst (tCons (tVar 2) tNil)) "order"))))
def t_neighbours (K : PySem.W.Frag) (L : Locs) : TS :=
  (tRet (tLc (iRng1 (tCons (tCB (rLenS K) (tCons (tVar 0) tNil)) tNil)) (gName 2) (tOr (tTest (tOp rEq (tOp (rIxL K) (tVar 0) (tVar 2)) (tVar 1))) (tTest (tOp rEq (tOp (rIxL K) (tVar 0) (tVar 1)) (tVar 2)))) (tVar 2) [2]))
def t_ways_to (K : PySem.W.Frag) (L : Locs) : TS :=
  (tSeq (tAsg (tMake L.C_Ways (sp_Ways_init K L) [] C8.E0 (tCons (tCB (rLenS K) (tCons (tVar 0) tNil)) (tCons (tVar 1) tNil))) (gName 2))
    (tSeq (tAsg (tC (.int 0)) (gName 3))
    (tSeq (tWhile (tTest (tOp (rI0 fun i j => .bl (decide (i < j))) (tVar 3) (tCB (rLenS K) (tCons (tFld K (tVar 2) "order") tNil)))) (tSeq (tAsg (tOp (rIxL K) (tFld K (tVar 2) "order") (tVar 3)) (gName 4))
    (tSeq (tFor (iList K (tCall (sp_neighbours K L) [] C8.E0 (tCons (tVar 0) (tCons (tVar 4) tNil)))) (gName 5) (tIfS (tTest (tOp rNe (tVar 5) (tOp (rIxL K) (tFld K (tVar 2) "toward") (tVar 4)))) (tSeq (tAsg (tVar 4) (gSub (tFld K (tVar 2) "toward") (tVar 5) rSetL))
    (tSeq (tAsg (tOp (rI0 fun i j => .int (i + j)) (tOp (rIxL K) (tFld K (tVar 2) "depths") (tVar 4)) (tC (.int 1))) (gSub (tFld K (tVar 2) "depths") (tVar 5) rSetL))
    (tDrop (tBM K "list" rAppend (tFld K (tVar 2) "order") (tCons (tVar 5) tNil))))) tNext))
    (tAug 3 (tC (.int 1)) (ipI fun i j => i + j)))))
    (tSeq (tFor (iRev K (tCons (tSl (rSlL K) (tFld K (tVar 2) "order") (tPart (tC (.int 1))) tNoPart) tNil)) (gName 4) (tAugS (tFld K (tVar 2) "sizes") (tOp (rIxL K) (tFld K (tVar 2) "toward") (tVar 4)) (tOp (rIxL K) (tFld K (tVar 2) "sizes") (tVar 4)) (rIxL K) (ipI fun i j => i + j) rSetL))
    (tRet (tVar 2))))))
def t_further (K : PySem.W.Frag) (L : Locs) : TS :=
  (tRet (tLc (iRng1 (tCons (tCB (rLenS K) (tCons (tFld K (tVar 0) "toward") tNil)) tNil)) (gName 2) (tTest (tOp (rIn K false) (tOp (rIxL K) (tFld K (tVar 0) "toward") (tVar 2)) (tVar 1))) (tVar 2) [2]))
def t_count_beyond (K : PySem.W.Frag) (L : Locs) : TS :=
  (tSeq (tAsg tDNewK (gName 2))
    (tSeq (tFor (iList K (tFld K (tVar 0) "order")) (gName 3) (tIfS (tOr (tTest (tOp (rIn K false) (tVar 3) (tVar 1))) (tB (tDInN (tOp (rIxL K) (tFld K (tVar 0) "toward") (tVar 3)) (tVar 2)))) (sDPut (tVar 2) (tVar 3) (tC (.bl true))) tNext))
    (tRet (tCB rLenD (tCons (tVar 2) tNil)))))
def t_first_front (K : PySem.W.Frag) (L : Locs) : TS :=
  (tRet (tCall (sp_further K L) [] C8.E0 (tCons (tVar 0) (tCons (tSl (rSlL K) (tFld K (tVar 0) "order") tNoPart (tPart (tC (.int 1)))) tNil))))
def t_front_behind (K : PySem.W.Frag) (L : Locs) : TS :=
  (tRet (tCall (sp_further K L) [] C8.E0 (tCons (tVar 0) (tCons (tLc (iList K (tVar 1)) (gName 3) (tTest (tOp (rIn K true) (tVar 3) (tVar 2))) (tVar 3) [3]) tNil))))
def t_choices (K : PySem.W.Frag) (L : Locs) (spS : Sp) : TS :=
  (tSeq (tIfS (tTest (tOp (rI0 fun i j => .bl (decide (i ≤ j))) (tCB (rLenS K) (tCons (tVar 0) tNil)) (tVar 1))) (tRet (tLst (tCons (tVar 0) tNil))) tNext)
    (tSeq (tIfS (tTest (tOp rEq (tVar 1) (tC (.int 0)))) (tRet (tLst (tCons (tLst tNil) tNil))) tNext)
    (tSeq (tAsg (tLc (iList K (tCall spS [] C8.E0 (tCons (tSl (rSlL K) (tVar 0) (tPart (tC (.int 1))) tNoPart) (tCons (tOp (rI0 fun i j => .int (i - j)) (tVar 1) (tC (.int 1))) tNil)))) (gName 3) tYes (tOp rCat (tSl (rSlL K) (tVar 0) tNoPart (tPart (tC (.int 1)))) (tVar 3)) [3]) (gName 2))
    (tRet (tOp rCat (tVar 2) (tCall spS [] C8.E0 (tCons (tSl (rSlL K) (tVar 0) (tPart (tC (.int 1))) tNoPart) (tCons (tVar 1) tNil))))))))
def t_count_kept (K : PySem.W.Frag) (L : Locs) : TS :=
  (tRet (tCB (rSum K) (tCons (tLc (iList K (tVar 1)) (gName 2) tYes (tOp (rIxL K) (tFld K (tVar 0) "sizes") (tVar 2)) [2]) tNil)))
def t_best_from (K : PySem.W.Frag) (L : Locs) (spS : Sp) : TS :=
  (tSeq (tIfS (tTest (tOp (rI0 fun i j => .bl (decide (i ≤ j))) (tCB (rLenS K) (tCons (tVar 2) tNil)) (tVar 1))) (tRet (tVar 2)) tNext)
    (tSeq (tAsg (tC (.int 0)) (gName 3))
    (tSeq (tAsg (tLst tNil) (gName 4))
    (tSeq (tFor (iList K (tCall (sp_choices K L 13) [] C8.E0 (tCons (tVar 2) (tCons (tVar 1) tNil)))) (gName 5) (tSeq (tAsg (tOp rCat (tVar 5) (tCall spS [] C8.E0 (tCons (tVar 0) (tCons (tVar 1) (tCons (tCall (sp_front_behind K L) [] C8.E0 (tCons (tVar 0) (tCons (tVar 2) (tCons (tVar 5) tNil)))) tNil))))) (gName 6))
    (tIfS (tTest (tOp (rI0 fun i j => .bl (decide (j < i))) (tCall (sp_count_kept K L) [] C8.E0 (tCons (tVar 0) (tCons (tVar 6) tNil))) (tVar 3))) (tSeq (tAsg (tCall (sp_count_kept K L) [] C8.E0 (tCons (tVar 0) (tCons (tVar 6) tNil))) (gName 3))
    (tAsg (tVar 6) (gName 4))) tNext)))
    (tRet (tVar 4))))))
def t_best_row (K : PySem.W.Frag) (L : Locs) : TS :=
  (tRet (tCall (sp_best_from K L 13) [] C8.E0 (tCons (tVar 0) (tCons (tVar 1) (tCons (tCall (sp_first_front K L) [] C8.E0 (tCons (tVar 0) tNil)) tNil)))))
def t_greatest_first (K : PySem.W.Frag) (L : Locs) : TS :=
  (tSeq (tAsg (tLst tNil) (gName 2))
    (tSeq (tAsg (tCall (sp_first_front K L) [] C8.E0 (tCons (tVar 0) tNil)) (gName 3))
    (tSeq (tWhile (tTest (tOp (rI0 fun i j => .bl (decide (j < i))) (tCB (rLenS K) (tCons (tVar 3) tNil)) (tC (.int 0)))) (tSeq (tAsg (tSl (rSlL K) (tSortKey K L (tCons (tVar 3) tNil)) tNoPart (tPart (tVar 1))) (gName 4))
    (tSeq (tDrop (tBM K "list" rExtend (tVar 2) (tCons (tVar 4) tNil)))
    (tAsg (tCall (sp_front_behind K L) [] C8.E0 (tCons (tVar 0) (tCons (tVar 3) (tCons (tVar 4) tNil)))) (gName 3)))))
    (tRet (tVar 2)))))
def t_Session_init (K : PySem.W.Frag) (L : Locs) : TS :=
  (tSeq (sFld K (tVar 0) (tLst tNil) "joined")
    (tSeq (sFld K (tVar 0) (tC (.int 0)) "origin")
    (tSeq (sFld K (tVar 0) (tC (.int 1)) "each")
    (tSeq (sFld K (tVar 0) (tC (.int 0)) "used")
    (tSeq (sFld K (tVar 0) (tLst tNil) "burning")
    (sFld K (tVar 0) (tLst tNil) "saved"))))))
def t_put_fire_back (K : PySem.W.Frag) (L : Locs) : TS :=
  (tSeq (sFld K (tVar 0) (tLst (tCons (tFld K (tVar 0) "origin") tNil)) "burning")
    (tSeq (sFld K (tVar 0) (tLst tNil) "saved")
    (sFld K (tVar 0) (tC (.int 0)) "used")))
def t_is_place (K : PySem.W.Frag) (L : Locs) : TS :=
  (tRet (tOp (rI0 fun i j => .bl (decide (i < j))) (tVar 1) (tCB (rLenS K) (tCons (tFld K (tVar 0) "joined") tNil))))
def t_is_under_way (K : PySem.W.Frag) (L : Locs) : TS :=
  (tRet (tOrV (tOp (rI0 fun i j => .bl (decide (j < i))) (tCB (rLenS K) (tCons (tFld K (tVar 0) "burning") tNil)) (tC (.int 1))) (tOp (rI0 fun i j => .bl (decide (j < i))) (tCB (rLenS K) (tCons (tFld K (tVar 0) "saved") tNil)) (tC (.int 0)))))
def t_catches (K : PySem.W.Frag) (L : Locs) : TS :=
  (tSeq (tIfS (tTest (tOp (rIn K false) (tVar 1) (tFld K (tVar 0) "saved"))) (tRet (tC (.bl false))) tNext)
    (tRet (tCB (rAny K) (tCons (tLc (iList K (tVar 2)) (gName 3) tYes (tOrV (tOp rEq (tOp (rIxL K) (tFld K (tVar 0) "joined") (tVar 1)) (tVar 3)) (tOp rEq (tOp (rIxL K) (tFld K (tVar 0) "joined") (tVar 3)) (tVar 1))) [3]) tNil))))
def t_gone_on (K : PySem.W.Frag) (L : Locs) : TS :=
  (tRet (tLc (iRng1 (tCons (tCB (rLenS K) (tCons (tFld K (tVar 0) "joined") tNil)) tNil)) (gName 2) (tOr (tTest (tOp (rIn K false) (tVar 2) (tVar 1))) (tB (tCall (sp_catches K L) [] C8.E0 (tCons (tVar 0) (tCons (tVar 2) (tCons (tVar 1) tNil)))))) (tVar 2) [2]))
def t_counted (K : PySem.W.Frag) (L : Locs) : TS :=
  (tRet (tOp rCat (tLst (tCons (tCB (rLenS K) (tCons (tVar 0) tNil)) tNil)) (tVar 0)))
def t_begin (K : PySem.W.Frag) (L : Locs) : TS :=
  (tSeq (sFld K (tVar 0) (tLst (tCons (tC .non) tNil)) "joined")
    (tSeq (sFld K (tVar 0) (tC (.int 0)) "origin")
    (tSeq (sFld K (tVar 0) (tC (.int 1)) "each")
    (tSeq (tDrop (tCall (sp_put_fire_back K L) [] C8.E0 (tCons (tVar 0) tNil)))
    (tRet (tLst (tCons (tC (.int 0)) tNil)))))))
def t_join (K : PySem.W.Frag) (L : Locs) : TS :=
  (tSeq (tIfS (tNot (tB (tCall (sp_is_place K L) [] C8.E0 (tCons (tVar 0) (tCons (tVar 1) tNil))))) (tRet (tLst (tCons (tC (.int (-2))) tNil))) tNext)
    (tSeq (tIfS (tB (tCall (sp_is_under_way K L) [] C8.E0 (tCons (tVar 0) tNil))) (tRet (tLst (tCons (tC (.int (-16))) tNil))) tNext)
    (tSeq (tIfS (tTest (tOp rEq (tCB (rLenS K) (tCons (tFld K (tVar 0) "joined") tNil)) (tC (.int (12))))) (tRet (tLst (tCons (tC (.int (-28))) tNil))) tNext)
    (tSeq (tDrop (tBM K "list" rAppend (tFld K (tVar 0) "joined") (tCons (tVar 1) tNil)))
    (tRet (tLst (tCons (tOp (rI0 fun i j => .int (i - j)) (tCB (rLenS K) (tCons (tFld K (tVar 0) "joined") tNil)) (tC (.int 1))) tNil)))))))
def t_drop (K : PySem.W.Frag) (L : Locs) : TS :=
  (tSeq (tIfS (tB (tCall (sp_is_under_way K L) [] C8.E0 (tCons (tVar 0) tNil))) (tRet (tLst (tCons (tC (.int (-16))) tNil))) tNext)
    (tSeq (tIfS (tTest (tOp rEq (tCB (rLenS K) (tCons (tFld K (tVar 0) "joined") tNil)) (tC (.int 1)))) (tRet (tLst (tCons (tC (.int (-6))) tNil))) tNext)
    (tSeq (tIfS (tTest (tOp rEq (tFld K (tVar 0) "origin") (tOp (rI0 fun i j => .int (i - j)) (tCB (rLenS K) (tCons (tFld K (tVar 0) "joined") tNil)) (tC (.int 1))))) (tRet (tLst (tCons (tC (.int (-17))) tNil))) tNext)
    (tSeq (tDrop (tBM0 K "list" rPop (tFld K (tVar 0) "joined")))
    (tRet (tLst (tCons (tCB (rLenS K) (tCons (tFld K (tVar 0) "joined") tNil)) tNil)))))))
def t_fire (K : PySem.W.Frag) (L : Locs) : TS :=
  (tSeq (tIfS (tNot (tB (tCall (sp_is_place K L) [] C8.E0 (tCons (tVar 0) (tCons (tVar 1) tNil))))) (tRet (tLst (tCons (tC (.int (-2))) tNil))) tNext)
    (tSeq (tAsg (tFld K (tVar 0) "origin") (gName 2))
    (tSeq (sFld K (tVar 0) (tVar 1) "origin")
    (tSeq (tDrop (tCall (sp_put_fire_back K L) [] C8.E0 (tCons (tVar 0) tNil)))
    (tRet (tLst (tCons (tVar 2) tNil)))))))
def t_each (K : PySem.W.Frag) (L : Locs) : TS :=
  (tSeq (tIfS (tTest (tOp (rIn K true) (tVar 1) (tTup (tCons (tC (.int 1)) (tCons (tC (.int 2)) tNil))))) (tRet (tLst (tCons (tC (.int (-22))) tNil))) tNext)
    (tSeq (tAsg (tFld K (tVar 0) "each") (gName 2))
    (tSeq (sFld K (tVar 0) (tVar 1) "each")
    (tSeq (tDrop (tCall (sp_put_fire_back K L) [] C8.E0 (tCons (tVar 0) tNil)))
    (tRet (tLst (tCons (tVar 2) tNil)))))))
def t_save (K : PySem.W.Frag) (L : Locs) : TS :=
  (tSeq (tIfS (tNot (tB (tCall (sp_is_place K L) [] C8.E0 (tCons (tVar 0) (tCons (tVar 1) tNil))))) (tRet (tLst (tCons (tC (.int (-2))) tNil))) tNext)
    (tSeq (tIfS (tTest (tOp (rIn K false) (tVar 1) (tFld K (tVar 0) "burning"))) (tRet (tLst (tCons (tC (.int (-33))) tNil))) tNext)
    (tSeq (tIfS (tTest (tOp (rIn K false) (tVar 1) (tFld K (tVar 0) "saved"))) (tRet (tLst (tCons (tC (.int (-17))) tNil))) tNext)
    (tSeq (tIfS (tTest (tOp rEq (tFld K (tVar 0) "used") (tFld K (tVar 0) "each"))) (tRet (tLst (tCons (tC (.int (-28))) tNil))) tNext)
    (tSeq (tDrop (tBM K "list" rAppend (tFld K (tVar 0) "saved") (tCons (tVar 1) tNil)))
    (tSeq (sFldAug K (tVar 0) (tC (.int 1)) L2.rAdd "used")
    (tRet (tLst (tCons (tCB (rLenS K) (tCons (tFld K (tVar 0) "saved") tNil)) tNil)))))))))
def t_turn (K : PySem.W.Frag) (L : Locs) : TS :=
  (tSeq (tAsg (tCB (rLenS K) (tCons (tFld K (tVar 0) "burning") tNil)) (gName 1))
    (tSeq (sFld K (tVar 0) (tCall (sp_gone_on K L) [] C8.E0 (tCons (tVar 0) (tCons (tFld K (tVar 0) "burning") tNil))) "burning")
    (tSeq (sFld K (tVar 0) (tC (.int 0)) "used")
    (tRet (tLst (tCons (tOp (rI0 fun i j => .int (i - j)) (tCB (rLenS K) (tCons (tFld K (tVar 0) "burning") tNil)) (tVar 1)) (tCons (tCB (rLenS K) (tCons (tFld K (tVar 0) "burning") tNil)) tNil)))))))
def t_again (K : PySem.W.Frag) (L : Locs) : TS :=
  (tSeq (tAsg (tLst (tCons (tCB (rLenS K) (tCons (tFld K (tVar 0) "burning") tNil)) (tCons (tCB (rLenS K) (tCons (tFld K (tVar 0) "saved") tNil)) tNil))) (gName 1))
    (tSeq (tDrop (tCall (sp_put_fire_back K L) [] C8.E0 (tCons (tVar 0) tNil)))
    (tRet (tVar 1))))
def t_burns (K : PySem.W.Frag) (L : Locs) : TS :=
  (tRet (tCall (sp_counted K L) [] C8.E0 (tCons (tFld K (tVar 0) "burning") tNil)))
def t_saved (K : PySem.W.Frag) (L : Locs) : TS :=
  (tRet (tCall (sp_counted K L) [] C8.E0 (tCons (tFld K (tVar 0) "saved") tNil)))
def t_safe (K : PySem.W.Frag) (L : Locs) : TS :=
  (tSeq (tAsg (tFld K (tVar 0) "burning") (gName 1))
    (tSeq (tAsg (tCall (sp_gone_on K L) [] C8.E0 (tCons (tVar 0) (tCons (tVar 1) tNil))) (gName 2))
    (tSeq (tWhile (tTest (tOp (rI0 fun i j => .bl (decide (j < i))) (tCB (rLenS K) (tCons (tVar 2) tNil)) (tCB (rLenS K) (tCons (tVar 1) tNil)))) (tSeq (tAsg (tVar 2) (gName 1))
    (tAsg (tCall (sp_gone_on K L) [] C8.E0 (tCons (tVar 0) (tCons (tVar 1) tNil))) (gName 2))))
    (tRet (tCall (sp_counted K L) [] C8.E0 (tCons (tLc (iRng1 (tCons (tCB (rLenS K) (tCons (tFld K (tVar 0) "joined") tNil)) tNil)) (gName 3) (tTest (tOp (rIn K true) (tVar 3) (tVar 1))) (tVar 3) [3]) tNil))))))
def t_state (K : PySem.W.Frag) (L : Locs) : TS :=
  (tRet (tOp rCat (tLst (tCons (tCB (rLenS K) (tCons (tFld K (tVar 0) "joined") tNil)) (tCons (tFld K (tVar 0) "origin") (tCons (tFld K (tVar 0) "each") (tCons (tFld K (tVar 0) "used") tNil))))) (tSl (rSlL K) (tFld K (tVar 0) "joined") (tPart (tC (.int 1))) tNoPart)))
def t_ways_now (K : PySem.W.Frag) (L : Locs) : TS :=
  (tRet (tCall (sp_ways_to K L) [] C8.E0 (tCons (tFld K (tVar 0) "joined") (tCons (tFld K (tVar 0) "origin") tNil))))
def t_are_in_range (K : PySem.W.Frag) (L : Locs) : TS :=
  (tRet (tAndV (tOp (rI0 fun i j => .bl (decide (i ≤ j))) (tCB (rLenS K) (tCons (tVar 1) tNil)) (tC (.int (12)))) (tCB (rAll K) (tCons (tLc (iList K (tVar 1)) (gName 2) tYes (tCall (sp_is_place K L) [] C8.E0 (tCons (tVar 0) (tCons (tVar 2) tNil))) [2]) tNil))))
def t_at_beginning (K : PySem.W.Frag) (L : Locs) : TS :=
  (tSeq (tAsg (tMake L.C_Session (sp_Session_init K L) [] E0 tNil) (gName 1))
    (tSeq (sFld K (tVar 1) (tCB (rListS K) (tCons (tFld K (tVar 0) "joined") tNil)) "joined")
    (tSeq (sFld K (tVar 1) (tFld K (tVar 0) "origin") "origin")
    (tSeq (sFld K (tVar 1) (tFld K (tVar 0) "each") "each")
    (tSeq (tDrop (tCall (sp_put_fire_back K L) [] C8.E0 (tCons (tVar 1) tNil)))
    (tRet (tVar 1)))))))
def t_most_kept (K : PySem.W.Frag) (L : Locs) : TS :=
  (tSeq (tAsg (tCall (sp_ways_to K L) [] C8.E0 (tCons (tFld K (tVar 0) "joined") (tCons (tVar 1) tNil))) (gName 3))
    (tRet (tCall (sp_count_kept K L) [] C8.E0 (tCons (tVar 3) (tCons (tCall (sp_best_row K L) [] C8.E0 (tCons (tVar 3) (tCons (tVar 2) tNil))) tNil)))))
def t_most_by_origin (K : PySem.W.Frag) (L : Locs) : TS :=
  (tRet (tLc (iRng1 (tCons (tCB (rLenS K) (tCons (tFld K (tVar 0) "joined") tNil)) tNil)) (gName 1) tYes (tCall (sp_most_kept K L) [] C8.E0 (tCons (tVar 0) (tCons (tVar 1) (tCons (tFld K (tVar 0) "each") tNil)))) [1]))
def t_best (K : PySem.W.Frag) (L : Locs) : TS :=
  (tSeq (tAsg (tCall (sp_ways_now K L) [] C8.E0 (tCons (tVar 0) tNil)) (gName 1))
    (tSeq (tAsg (tCall (sp_best_row K L) [] C8.E0 (tCons (tVar 1) (tCons (tFld K (tVar 0) "each") tNil))) (gName 2))
    (tRet (tOp rCat (tLst (tCons (tCall (sp_count_kept K L) [] C8.E0 (tCons (tVar 1) (tCons (tVar 2) tNil))) tNil)) (tVar 2)))))
def t_greedy (K : PySem.W.Frag) (L : Locs) : TS :=
  (tSeq (tAsg (tCall (sp_ways_now K L) [] C8.E0 (tCons (tVar 0) tNil)) (gName 1))
    (tSeq (tAsg (tCall (sp_greatest_first K L) [] C8.E0 (tCons (tVar 1) (tCons (tFld K (tVar 0) "each") tNil))) (gName 2))
    (tRet (tOp rCat (tLst (tCons (tCall (sp_count_kept K L) [] C8.E0 (tCons (tVar 1) (tCons (tVar 2) tNil))) tNil)) (tVar 2)))))
def t_run (K : PySem.W.Frag) (L : Locs) : TS :=
  (tSeq (tIfS (tNot (tB (tCall (sp_are_in_range K L) [] C8.E0 (tCons (tVar 0) (tCons (tVar 1) tNil))))) (tRet (tLst (tCons (tC (.int (-22))) tNil))) tNext)
    (tSeq (tAsg (tCall (sp_at_beginning K L) [] C8.E0 (tCons (tVar 0) tNil)) (gName 2))
    (tSeq (tFor (iList K (tVar 1)) (gName 3) (tSeq (tIfS (tTest (tOp rEq (tFld K (tVar 2) "used") (tFld K (tVar 2) "each"))) (tDrop (tCall (sp_turn K L) [] C8.E0 (tCons (tVar 2) tNil))) tNext)
    (tIfS (tTest (tOp (rI0 fun i j => .bl (decide (i < j))) (tOp (rIxL K) (tCall (sp_save K L) [] C8.E0 (tCons (tVar 2) (tCons (tVar 3) tNil))) (tC (.int 0))) (tC (.int 0)))) (tRet (tLst (tCons (tC (.int (-33))) tNil))) tNext)))
    (tSeq (tAsg (tOp (rIxL K) (tCall (sp_safe K L) [] C8.E0 (tCons (tVar 2) tNil)) (tC (.int 0))) (gName 4))
    (tRet (tLst (tCons (tVar 4) (tCons (tOp (rI0 fun i j => .int (i - j)) (tCB (rLenS K) (tCons (tFld K (tVar 0) "joined") tNil)) (tVar 4)) tNil))))))))
def t_size (K : PySem.W.Frag) (L : Locs) : TS :=
  (tSeq (tIfS (tNot (tB (tCall (sp_is_place K L) [] C8.E0 (tCons (tVar 0) (tCons (tVar 1) tNil))))) (tRet (tLst (tCons (tC (.int (-2))) tNil))) tNext)
    (tRet (tLst (tCons (tOp (rIxL K) (tFld K (tCall (sp_ways_now K L) [] C8.E0 (tCons (tVar 0) tNil)) "sizes") (tVar 1)) tNil))))
def t_deep (K : PySem.W.Frag) (L : Locs) : TS :=
  (tSeq (tIfS (tNot (tB (tCall (sp_is_place K L) [] C8.E0 (tCons (tVar 0) (tCons (tVar 1) tNil))))) (tRet (tLst (tCons (tC (.int (-2))) tNil))) tNext)
    (tRet (tLst (tCons (tOp (rIxL K) (tFld K (tCall (sp_ways_now K L) [] C8.E0 (tCons (tVar 0) tNil)) "depths") (tVar 1)) tNil))))
def t_level (K : PySem.W.Frag) (L : Locs) : TS :=
  (tSeq (tAsg (tFld K (tCall (sp_ways_now K L) [] C8.E0 (tCons (tVar 0) tNil)) "depths") (gName 2))
    (tRet (tCall (sp_counted K L) [] C8.E0 (tCons (tLc (iRng1 (tCons (tCB (rLenS K) (tCons (tVar 2) tNil)) tNil)) (gName 3) (tTest (tOp rEq (tOp (rIxL K) (tVar 2) (tVar 3)) (tVar 1))) (tVar 3) [3]) tNil))))
def t_kept (K : PySem.W.Frag) (L : Locs) : TS :=
  (tSeq (tIfS (tNot (tB (tCall (sp_are_in_range K L) [] C8.E0 (tCons (tVar 0) (tCons (tVar 1) tNil))))) (tRet (tLst (tCons (tC (.int (-22))) tNil))) tNext)
    (tRet (tLst (tCons (tCall (sp_count_beyond K L) [] C8.E0 (tCons (tCall (sp_ways_now K L) [] C8.E0 (tCons (tVar 0) tNil)) (tCons (tVar 1) tNil))) tNil))))
def t_worst (K : PySem.W.Frag) (L : Locs) : TS :=
  (tSeq (tAsg (tCall (sp_most_by_origin K L) [] C8.E0 (tCons (tVar 0) tNil)) (gName 1))
    (tSeq (tAsg (tCB (rMin K) (tCons (tVar 1) tNil)) (gName 2))
    (tRet (tOp rCat (tLst (tCons (tVar 2) tNil)) (tLc (iRng1 (tCons (tCB (rLenS K) (tCons (tVar 1) tNil)) tNil)) (gName 3) (tTest (tOp rEq (tOp (rIxL K) (tVar 1) (tVar 3)) (tVar 2))) (tVar 3) [3])))))
def t_from_all (K : PySem.W.Frag) (L : Locs) : TS :=
  (tRet (tCall (sp_counted K L) [] C8.E0 (tCons (tCall (sp_most_by_origin K L) [] C8.E0 (tCons (tVar 0) tNil)) tNil)))
def t_mores (K : PySem.W.Frag) (L : Locs) : TS :=
  (tRet (tCall (sp_counted K L) [] C8.E0 (tCons (tLc (iTup K (tTup (tCons (tC (.int 1)) (tCons (tC (.int 2)) tNil)))) (gName 1) tYes (tCall (sp_most_kept K L) [] C8.E0 (tCons (tVar 0) (tCons (tFld K (tVar 0) "origin") (tCons (tVar 1) tNil)))) [1]) tNil)))
def t_end_of_call (K : PySem.W.Frag) (L : Locs) : TS :=
  (tSeq (tIfS (tOr (tTest (tOp (rInKD false L.a_NUMBER_CALLS (kvs_NUMBER_CALLS L)) (tOp (rIxL K) (tVar 0) (tVar 1)) (tC (.ref L.a_NUMBER_CALLS)))) (tTest (tOp (rInKD false L.a_NUMBER_QUESTIONS (kvs_NUMBER_QUESTIONS L)) (tOp (rIxL K) (tVar 0) (tVar 1)) (tC (.ref L.a_NUMBER_QUESTIONS))))) (tRet (tOp (rI0 fun i j => .int (i + j)) (tVar 1) (tC (.int 2)))) tNext)
    (tSeq (tIfS (tTest (tOp (rInKD false L.a_ROW_QUESTIONS (kvs_ROW_QUESTIONS L)) (tOp (rIxL K) (tVar 0) (tVar 1)) (tC (.ref L.a_ROW_QUESTIONS)))) (tRet (tOp (rI0 fun i j => .int (i + j)) (tOp (rI0 fun i j => .int (i + j)) (tVar 1) (tC (.int 2))) (tOp (rIxL K) (tVar 0) (tOp (rI0 fun i j => .int (i + j)) (tVar 1) (tC (.int 1)))))) tNext)
    (tRet (tOp (rI0 fun i j => .int (i + j)) (tVar 1) (tC (.int 1))))))
def t_answer_of (K : PySem.W.Frag) (L : Locs) : TS :=
  (tSeq (tIfS (tAnd (tTest (tOp rNe (tVar 1) (tC (.int (0))))) (tTest (tOp rEq (tCB (rLenS K) (tCons (tFld K (tVar 0) "joined") tNil)) (tC (.int 0))))) (tRet (tLst (tCons (tC (.int (-11))) tNil))) tNext)
    (tSeq (tIfS (tTest (tOp (rInKD false L.a_PLAIN_CALLS (kvs_PLAIN_CALLS L)) (tVar 1) (tC (.ref L.a_PLAIN_CALLS)))) (tRet (tCallE (S_PLAIN_CALLS K L) (tOp (rIxKD L.a_PLAIN_CALLS (kvs_PLAIN_CALLS L)) (tC (.ref L.a_PLAIN_CALLS)) (tVar 1)) (tCons (tVar 0) tNil))) tNext)
    (tSeq (tIfS (tTest (tOp (rInKD false L.a_NUMBER_CALLS (kvs_NUMBER_CALLS L)) (tVar 1) (tC (.ref L.a_NUMBER_CALLS)))) (tRet (tCallE (S_NUMBER_CALLS K L) (tOp (rIxKD L.a_NUMBER_CALLS (kvs_NUMBER_CALLS L)) (tC (.ref L.a_NUMBER_CALLS)) (tVar 1)) (tCons (tVar 0) (tCons (tOp (rIxL K) (tVar 2) (tC (.int 0))) tNil)))) tNext)
    (tSeq (tIfS (tTest (tOp (rInKD false L.a_PLAIN_QUESTIONS (kvs_PLAIN_QUESTIONS L)) (tVar 1) (tC (.ref L.a_PLAIN_QUESTIONS)))) (tRet (tCallE (S_PLAIN_QUESTIONS K L) (tOp (rIxKD L.a_PLAIN_QUESTIONS (kvs_PLAIN_QUESTIONS L)) (tC (.ref L.a_PLAIN_QUESTIONS)) (tVar 1)) (tCons (tVar 0) tNil))) tNext)
    (tSeq (tIfS (tTest (tOp (rInKD false L.a_NUMBER_QUESTIONS (kvs_NUMBER_QUESTIONS L)) (tVar 1) (tC (.ref L.a_NUMBER_QUESTIONS)))) (tRet (tCallE (S_NUMBER_QUESTIONS K L) (tOp (rIxKD L.a_NUMBER_QUESTIONS (kvs_NUMBER_QUESTIONS L)) (tC (.ref L.a_NUMBER_QUESTIONS)) (tVar 1)) (tCons (tVar 0) (tCons (tOp (rIxL K) (tVar 2) (tC (.int 0))) tNil)))) tNext)
    (tRet (tCallE (S_ROW_QUESTIONS K L) (tOp (rIxKD L.a_ROW_QUESTIONS (kvs_ROW_QUESTIONS L)) (tC (.ref L.a_ROW_QUESTIONS)) (tVar 1)) (tCons (tVar 0) (tCons (tSl (rSlL K) (tVar 2) (tPart (tC (.int 1))) tNoPart) tNil)))))))))
def t_answers (K : PySem.W.Frag) (L : Locs) : TS :=
  (tSeq (tAsg (tMake L.C_Session (sp_Session_init K L) [] E0 tNil) (gName 1))
    (tSeq (tAsg (tLst tNil) (gName 2))
    (tSeq (tAsg (tC (.int 0)) (gName 3))
    (tSeq (tWhile (tTest (tOp (rI0 fun i j => .bl (decide (i < j))) (tVar 3) (tCB (rLenS K) (tCons (tVar 0) tNil)))) (tSeq (tAsg (tCall (sp_end_of_call K L) [] C8.E0 (tCons (tVar 0) (tCons (tVar 3) tNil))) (gName 4))
    (tSeq (tAsg (tCall (sp_answer_of K L) [] C8.E0 (tCons (tVar 1) (tCons (tOp (rIxL K) (tVar 0) (tVar 3)) (tCons (tSl (rSlL K) (tVar 0) (tPart (tOp (rI0 fun i j => .int (i + j)) (tVar 3) (tC (.int 1)))) (tPart (tVar 4))) tNil)))) (gName 5))
    (tSeq (tDrop (tBM K "list" rAppend (tVar 2) (tCons (tCB (rLenS K) (tCons (tVar 5) tNil)) tNil)))
    (tSeq (tDrop (tBM K "list" rExtend (tVar 2) (tCons (tVar 5) tNil)))
    (tAsg (tVar 4) (gName 3)))))))
    (tRet (tVar 2))))))
end FS

set_option maxRecDepth 100000
set_option maxHeartbeats 4000000
namespace FS
open PySem PySem.Spec PyProof.Rows L2 Evl NdefX
section
variable {P : Program} {w : World} {K : PySem.W.Frag} {mg : Str → Option Value} {base : Heap} {L : Locs}
theorem ok_Ways_init (T : Txt K mg L) (h : HasInit K mg "Ways" L.C_Ways "Ways.__init__" s_Ways_init ["self", "many", "origin"]) 
    (len : ∀ vs H Q E, sp_Ways_init K L vs H Q E → vs.length = 3) (pure : ∀ vs H Q E, sp_Ways_init K L vs H Q E → t_Ways_init K L { nx := fun _ H' => Q .non H', rt := Q } (start N_Ways_init vs) H) :
    C8.Mak P w K mg base 1 "Ways" L.C_Ways (sp_Ways_init K L) [] := by
  obtain ⟨f, fd, M, F, b⟩ := h.ex
  refine C8.mak0 (k := 0) M T.g_Ways F b .nil sc_Ways_init len (fun cdv A outer s H vs Q E hr h => ⟨t_Ways_init K L, ?_, pure vs H Q E h⟩)
  exact (pss_cons (ps_fld (pv 0) (pe_lc (own := [("p", 3)]) (g := gName 3) (tt := tYes) (te := (tC .non)) rfl sc_Ways_init.nd (pi_range1 (by rfl) T.n_range (pa_cons (pv 1) pa_nil)) (blkOk_by (N := N_Ways_init) (sc := (C8.fnScope s_Ways_init)) (by decide +kernel)) (fun _ _ _ _ _ => pg_name (i := 3) sc_Ways_init.nd rfl (Or.inl rfl)) (fun _ _ _ _ _ => pts_nil) (fun _ _ _ _ _ => pe_non)) rfl)
      (pss_cons (ps_fld (pv 0) (pe_lc (own := [("p", 3)]) (g := gName 3) (tt := tYes) (te := (tC (.int 0))) rfl sc_Ways_init.nd (pi_range1 (by rfl) T.n_range (pa_cons (pv 1) pa_nil)) (blkOk_by (N := N_Ways_init) (sc := (C8.fnScope s_Ways_init)) (by decide +kernel)) (fun _ _ _ _ _ => pg_name (i := 3) sc_Ways_init.nd rfl (Or.inl rfl)) (fun _ _ _ _ _ => pts_nil) (fun _ _ _ _ _ => pe_int)) rfl)
      (pss_cons (ps_fld (pv 0) (pe_lc (own := [("p", 3)]) (g := gName 3) (tt := tYes) (te := (tC (.int 1))) rfl sc_Ways_init.nd (pi_range1 (by rfl) T.n_range (pa_cons (pv 1) pa_nil)) (blkOk_by (N := N_Ways_init) (sc := (C8.fnScope s_Ways_init)) (by decide +kernel)) (fun _ _ _ _ _ => pg_name (i := 3) sc_Ways_init.nd rfl (Or.inl rfl)) (fun _ _ _ _ _ => pts_nil) (fun _ _ _ _ _ => pe_int)) rfl)
      (pss_one (ps_fld (pv 0) (pe_lst (pa_cons (pv 2) pa_nil)) rfl)))))
theorem ok_neighbours (T : Txt K mg L) (h : Has K mg "neighbours" s_neighbours ["joined", "p"]) 
    (len : ∀ vs H Q E, sp_neighbours K L vs H Q E → vs.length = 2) (pure : ∀ vs H Q E, sp_neighbours K L vs H Q E → t_neighbours K L { nx := fun _ H' => Q .non H', rt := Q } (start N_neighbours vs) H) :
    C8.Cal P w K mg base 1 "neighbours" (sp_neighbours K L) [] := by
  obtain ⟨f, fd, D, b⟩ := h.ex
  refine C8.cal0 (k := 0) D b .nil sc_neighbours len (fun cdv A outer s H vs Q E hr h => ⟨t_neighbours K L, ?_, pure vs H Q E h⟩)
  exact (pss_one (ps_ret (pe_lc (own := [("q", 2)]) (g := gName 2) (tt := (tOr (tTest (tOp rEq (tOp (rIxL K) (tVar 0) (tVar 2)) (tVar 1))) (tTest (tOp rEq (tOp (rIxL K) (tVar 0) (tVar 1)) (tVar 2))))) (te := (tVar 2)) rfl sc_neighbours.nd (pi_range1 (by rfl) T.n_range (pa_cons (pe_callB call_len_seq (by rfl) T.n_len PySem.boot_len (pa_cons (pv 0) pa_nil)) pa_nil)) (blkOk_by (N := N_neighbours) (sc := (C8.fnScope s_neighbours)) (by decide +kernel)) (fun _ _ _ _ _ => pg_name (i := 2) sc_neighbours.nd rfl (Or.inl rfl)) (fun _ _ _ _ _ => (pts_one (PW.pt (pw_or (pt_cmpR op_eq (pe_ix ix_list (pv 0) (pv 2) (fun _ _ => rfl)) (pv 1) (by rfl)) (pw_or1 (pt_cmpR op_eq (pe_ix ix_list (pv 0) (pv 1) (fun _ _ => rfl)) (pv 2) (by rfl))))))) (fun _ _ _ _ _ => (pv 2)))))
theorem ok_ways_to (T : Txt K mg L) (h : Has K mg "ways_to" s_ways_to ["joined", "origin"]) (C_Ways : C8.Mak P w K mg base 1 "Ways" L.C_Ways (sp_Ways_init K L) []) (C_neighbours : C8.Cal P w K mg base 1 "neighbours" (sp_neighbours K L) [])
    (len : ∀ vs H Q E, sp_ways_to K L vs H Q E → vs.length = 2) (pure : ∀ vs H Q E, sp_ways_to K L vs H Q E → t_ways_to K L { nx := fun _ H' => Q .non H', rt := Q } (start N_ways_to vs) H) :
    C8.Cal P w K mg base 3 "ways_to" (sp_ways_to K L) [] := by
  obtain ⟨f, fd, D, b⟩ := h.ex
  refine C8.cal0 (k := 2) D b .nil sc_ways_to len (fun cdv A outer s H vs Q E hr h => ⟨t_ways_to K L, ?_, pure vs H Q E h⟩)
  exact (pss_cons (ps_set (i := 2) sc_ways_to.nd rfl (by first | exact Or.inl rfl | exact Or.inr rfl) (C8.pe_mk C_Ways hr (by decide) (by rfl) (pa_cons (pe_callB call_len_seq (by rfl) T.n_len PySem.boot_len (pa_cons (pv 0) pa_nil)) (pa_cons (pv 1) pa_nil))))
      (pss_cons (ps_set (i := 3) sc_ways_to.nd rfl (by first | exact Or.inl rfl | exact Or.inr rfl) pe_int)
      (pss_cons (ps_while PassesOwn.never (pt_cmpR op_lt (pv 3) (pe_callB call_len_seq (by rfl) T.n_len PySem.boot_len (pa_cons (pe_fld (pv 2) rfl) pa_nil)) (by rfl)) (pss_cons (ps_set (i := 4) sc_ways_to.nd rfl (by first | exact Or.inl rfl | exact Or.inr rfl) (pe_ix ix_list (pe_fld (pv 2) rfl) (pv 3) (fun _ _ => rfl)))
      (pss_cons (ps_for PassesOwn.never rfl (pi_list (C8.pe_c C_neighbours hr (by decide) (by rfl) (pa_cons (pv 0) (pa_cons (pv 4) pa_nil)))) (pg_name (i := 5) sc_ways_to.nd rfl (by first | exact Or.inl rfl | exact Or.inr rfl)) (pss_one (ps_if (pt_cmpR op_ne (pv 5) (pe_ix ix_list (pe_fld (pv 2) rfl) (pv 4) (fun _ _ => rfl)) (by rfl)) (pss_cons (ps_asg (pv 4) (pg_sub (pe_fld (pv 2) rfl) (pv 5) set_list))
      (pss_cons (ps_asg (pe_op op_add (pe_ix ix_list (pe_fld (pv 2) rfl) (pv 4) (fun _ _ => rfl)) pe_int) (pg_sub (pe_fld (pv 2) rfl) (pv 5) set_list))
      (pss_one (ps_expr (pe_bm PySem.F.plainAttrs_list PySem.F.slot_list_append PySem.F.type_list_append mt_append (pe_fld (pv 2) rfl) (pa_cons (pv 5) pa_nil)))))) pss_nil)))
      (pss_one (ps_aug (i := 3) sc_ways_to.nd rfl (by first | exact Or.inl rfl | exact Or.inr rfl) pe_int ip_add)))))
      (pss_cons (ps_for PassesOwn.never rfl (pi_reversed (by rfl) T.n_reversed (pa_cons (pe_slice sl_list (pe_fld (pv 2) rfl) (po_some pe_int) po_none) pa_nil)) (pg_name (i := 4) sc_ways_to.nd rfl (by first | exact Or.inl rfl | exact Or.inr rfl)) (pss_one (ps_augS (pe_fld (pv 2) rfl) (pe_ix ix_list (pe_fld (pv 2) rfl) (pv 4) (fun _ _ => rfl)) get_list (pe_ix ix_list (pe_fld (pv 2) rfl) (pv 4) (fun _ _ => rfl)) ip_add set_list)))
      (pss_one (ps_ret (pv 2)))))))
theorem ok_further (T : Txt K mg L) (h : Has K mg "further" s_further ["ways", "places"]) 
    (len : ∀ vs H Q E, sp_further K L vs H Q E → vs.length = 2) (pure : ∀ vs H Q E, sp_further K L vs H Q E → t_further K L { nx := fun _ H' => Q .non H', rt := Q } (start N_further vs) H) :
    C8.Cal P w K mg base 1 "further" (sp_further K L) [] := by
  obtain ⟨f, fd, D, b⟩ := h.ex
  refine C8.cal0 (k := 0) D b .nil sc_further len (fun cdv A outer s H vs Q E hr h => ⟨t_further K L, ?_, pure vs H Q E h⟩)
  exact (pss_one (ps_ret (pe_lc (own := [("q", 2)]) (g := gName 2) (tt := (tTest (tOp (rIn K false) (tOp (rIxL K) (tFld K (tVar 0) "toward") (tVar 2)) (tVar 1)))) (te := (tVar 2)) rfl sc_further.nd (pi_range1 (by rfl) T.n_range (pa_cons (pe_callB call_len_seq (by rfl) T.n_len PySem.boot_len (pa_cons (pe_fld (pv 0) rfl) pa_nil)) pa_nil)) (blkOk_by (N := N_further) (sc := (C8.fnScope s_further)) (by decide +kernel)) (fun _ _ _ _ _ => pg_name (i := 2) sc_further.nd rfl (Or.inl rfl)) (fun _ _ _ _ _ => (pts_one (pt_cmpR op_in_seq (pe_ix ix_list (pe_fld (pv 0) rfl) (pv 2) (fun _ _ => rfl)) (pv 1) (by rfl)))) (fun _ _ _ _ _ => (pv 2)))))
theorem ok_count_beyond (T : Txt K mg L) (h : Has K mg "count_beyond" s_count_beyond ["ways", "places"]) 
    (len : ∀ vs H Q E, sp_count_beyond K L vs H Q E → vs.length = 2) (pure : ∀ vs H Q E, sp_count_beyond K L vs H Q E → t_count_beyond K L { nx := fun _ H' => Q .non H', rt := Q } (start N_count_beyond vs) H) :
    C8.Cal P w K mg base 1 "count_beyond" (sp_count_beyond K L) [] := by
  obtain ⟨f, fd, D, b⟩ := h.ex
  refine C8.cal0 (k := 0) D b .nil sc_count_beyond len (fun cdv A outer s H vs Q E hr h => ⟨t_count_beyond K L, ?_, pure vs H Q E h⟩)
  exact (pss_cons (ps_set (i := 2) sc_count_beyond.nd rfl (by first | exact Or.inl rfl | exact Or.inr rfl) pe_dnewK)
      (pss_cons (ps_for PassesOwn.never rfl (pi_list (pe_fld (pv 0) rfl)) (pg_name (i := 3) sc_count_beyond.nd rfl (by first | exact Or.inl rfl | exact Or.inr rfl)) (pss_one (ps_if (PW.pt (pw_or (pt_cmpR op_in_seq (pv 3) (pv 1) (by rfl)) (pw_or1 (pt_cmp (pc_dinN (hu_of hr) (pe_ix ix_list (pe_fld (pv 0) rfl) (pv 3) (fun _ _ => rfl)) (pv 2)) rfl)))) (pss_one (ps_dput (hu_of hr) (pv 2) (pv 3) pe_bl rfl)) pss_nil)))
      (pss_one (ps_ret (pe_callB call_lenD (by rfl) T.n_len PySem.boot_len (pa_cons (pv 2) pa_nil))))))
theorem ok_first_front (T : Txt K mg L) (h : Has K mg "first_front" s_first_front ["ways"]) (C_further : C8.Cal P w K mg base 1 "further" (sp_further K L) [])
    (len : ∀ vs H Q E, sp_first_front K L vs H Q E → vs.length = 1) (pure : ∀ vs H Q E, sp_first_front K L vs H Q E → t_first_front K L { nx := fun _ H' => Q .non H', rt := Q } (start N_first_front vs) H) :
    C8.Cal P w K mg base 2 "first_front" (sp_first_front K L) [] := by
  obtain ⟨f, fd, D, b⟩ := h.ex
  refine C8.cal0 (k := 1) D b .nil sc_first_front len (fun cdv A outer s H vs Q E hr h => ⟨t_first_front K L, ?_, pure vs H Q E h⟩)
  exact (pss_one (ps_ret (C8.pe_c C_further hr (by decide) (by rfl) (pa_cons (pv 0) (pa_cons (pe_slice sl_list (pe_fld (pv 0) rfl) po_none (po_some pe_int)) pa_nil)))))
theorem ok_front_behind (T : Txt K mg L) (h : Has K mg "front_behind" s_front_behind ["ways", "front", "chosen"]) (C_further : C8.Cal P w K mg base 1 "further" (sp_further K L) [])
    (len : ∀ vs H Q E, sp_front_behind K L vs H Q E → vs.length = 3) (pure : ∀ vs H Q E, sp_front_behind K L vs H Q E → t_front_behind K L { nx := fun _ H' => Q .non H', rt := Q } (start N_front_behind vs) H) :
    C8.Cal P w K mg base 2 "front_behind" (sp_front_behind K L) [] := by
  obtain ⟨f, fd, D, b⟩ := h.ex
  refine C8.cal0 (k := 1) D b .nil sc_front_behind len (fun cdv A outer s H vs Q E hr h => ⟨t_front_behind K L, ?_, pure vs H Q E h⟩)
  exact (pss_one (ps_ret (C8.pe_c C_further hr (by decide) (by rfl) (pa_cons (pv 0) (pa_cons (pe_lc (own := [("p", 3)]) (g := gName 3) (tt := (tTest (tOp (rIn K true) (tVar 3) (tVar 2)))) (te := (tVar 3)) rfl sc_front_behind.nd (pi_list (pv 1)) (blkOk_by (N := N_front_behind) (sc := (C8.fnScope s_front_behind)) (by decide +kernel)) (fun _ _ _ _ _ => pg_name (i := 3) sc_front_behind.nd rfl (Or.inl rfl)) (fun _ _ _ _ _ => (pts_one (pt_cmpR op_notIn_seq (pv 3) (pv 2) (by rfl)))) (fun _ _ _ _ _ => (pv 3))) pa_nil)))))
theorem st_choices {kS j : Nat} {spS sp : Sp} (T : Txt K mg L) (h : Has K mg "choices" s_choices ["front", "each"])  (C_choices : C8.Cal P w K mg base kS "choices" spS []) (hj : 0 ≤ j) (hk : kS ≤ j)
    (len : ∀ vs H Q E, sp vs H Q E → vs.length = 2) (pure : ∀ vs H Q E, sp vs H Q E → t_choices K L spS { nx := fun _ H' => Q .non H', rt := Q } (start N_choices vs) H) :
    C8.Cal P w K mg base (j + 1) "choices" sp [] := by
  obtain ⟨f, fd, D, b⟩ := h.ex
  refine C8.cal0 (k := j) D b .nil sc_choices len (fun cdv A outer s H vs Q E hr h => ⟨t_choices K L spS, ?_, pure vs H Q E h⟩)
  exact (pss_cons (ps_if (pt_cmpR op_le (pe_callB call_len_seq (by rfl) T.n_len PySem.boot_len (pa_cons (pv 0) pa_nil)) (pv 1) (by rfl)) (pss_one (ps_ret (pe_lst (pa_cons (pv 0) pa_nil)))) pss_nil)
      (pss_cons (ps_if (pt_cmpR op_eq (pv 1) pe_int (by rfl)) (pss_one (ps_ret (pe_lst (pa_cons (pe_lst pa_nil) pa_nil)))) pss_nil)
      (pss_cons (ps_setLc (i := 2) (own := [("others", 3)]) (g := gName 3) (tt := tYes) (te := (tOp rCat (tSl (rSlL K) (tVar 0) tNoPart (tPart (tC (.int 1)))) (tVar 3))) rfl sc_choices.nd rfl rfl (sw_true rfl rfl rfl (by decide +kernel)) (pi_list (C8.pe_c C_choices hr (by omega) (by rfl) (pa_cons (pe_slice sl_list (pv 0) (po_some pe_int) po_none) (pa_cons (pe_op op_sub (pv 1) pe_int) pa_nil)))) (blkOk_by (N := N_choices) (sc := (C8.fnScope s_choices)) (by decide +kernel)) (fun _ _ _ _ _ => pg_name (i := 3) sc_choices.nd rfl (Or.inl rfl)) (fun _ _ _ _ _ => pts_nil) (fun _ _ _ _ _ => (pe_op op_cat (pe_slice sl_list (pv 0) po_none (po_some pe_int)) (pv 3))))
      (pss_one (ps_ret (pe_op op_cat (pv 2) (C8.pe_c C_choices hr (by omega) (by rfl) (pa_cons (pe_slice sl_list (pv 0) (po_some pe_int) po_none) (pa_cons (pv 1) pa_nil)))))))))
theorem ok_choices (T : Txt K mg L) (h : Has K mg "choices" s_choices ["front", "each"]) 
    (len : ∀ n vs H Q E, sp_choices K L n vs H Q E → vs.length = 2) (zero : ∀ vs H Q E, sp_choices K L 0 vs H Q E → False) (pure : ∀ n vs H Q E, sp_choices K L (n + 1) vs H Q E → t_choices K L (sp_choices K L n) { nx := fun _ H' => Q .non H', rt := Q } (start N_choices vs) H) :
    C8.Cal P w K mg base 14 "choices" (sp_choices K L 13) [] := by
  have all : ∀ n, C8.Cal P w K mg base (1 + n) "choices" (sp_choices K L n) [] := fun n => by
    induction n with
    | zero =>
      obtain ⟨f, fd, D, b⟩ := h.ex
      exact C8.cal0 (k := 0) D b .nil sc_choices (len 0) (fun cdv A outer s H vs Q E hr h => (zero vs H Q E h).elim)
    | succ n ih => exact st_choices T h  ih (show 0 ≤ 1 + n by omega) (Nat.le_refl _) (len (n + 1)) (pure n)
  exact all 13
theorem ok_count_kept (T : Txt K mg L) (h : Has K mg "count_kept" s_count_kept ["ways", "places"]) 
    (len : ∀ vs H Q E, sp_count_kept K L vs H Q E → vs.length = 2) (pure : ∀ vs H Q E, sp_count_kept K L vs H Q E → t_count_kept K L { nx := fun _ H' => Q .non H', rt := Q } (start N_count_kept vs) H) :
    C8.Cal P w K mg base 1 "count_kept" (sp_count_kept K L) [] := by
  obtain ⟨f, fd, D, b⟩ := h.ex
  refine C8.cal0 (k := 0) D b .nil sc_count_kept len (fun cdv A outer s H vs Q E hr h => ⟨t_count_kept K L, ?_, pure vs H Q E h⟩)
  exact (pss_one (ps_ret (pe_callB (cr_sum rfl) (by rfl) T.n_sum (by decide +kernel) (pa_cons (pe_lc (own := [("p", 2)]) (g := gName 2) (tt := tYes) (te := (tOp (rIxL K) (tFld K (tVar 0) "sizes") (tVar 2))) rfl sc_count_kept.nd (pi_list (pv 1)) (blkOk_by (N := N_count_kept) (sc := (C8.fnScope s_count_kept)) (by decide +kernel)) (fun _ _ _ _ _ => pg_name (i := 2) sc_count_kept.nd rfl (Or.inl rfl)) (fun _ _ _ _ _ => pts_nil) (fun _ _ _ _ _ => (pe_ix ix_list (pe_fld (pv 0) rfl) (pv 2) (fun _ _ => rfl)))) pa_nil))))
theorem st_best_from {kS j : Nat} {spS sp : Sp} (T : Txt K mg L) (h : Has K mg "best_from" s_best_from ["ways", "each", "front"]) (C_choices : C8.Cal P w K mg base 14 "choices" (sp_choices K L 13) []) (C_front_behind : C8.Cal P w K mg base 2 "front_behind" (sp_front_behind K L) []) (C_count_kept : C8.Cal P w K mg base 1 "count_kept" (sp_count_kept K L) []) (C_best_from : C8.Cal P w K mg base kS "best_from" spS []) (hj : 14 ≤ j) (hk : kS ≤ j)
    (len : ∀ vs H Q E, sp vs H Q E → vs.length = 3) (pure : ∀ vs H Q E, sp vs H Q E → t_best_from K L spS { nx := fun _ H' => Q .non H', rt := Q } (start N_best_from vs) H) :
    C8.Cal P w K mg base (j + 1) "best_from" sp [] := by
  obtain ⟨f, fd, D, b⟩ := h.ex
  refine C8.cal0 (k := j) D b .nil sc_best_from len (fun cdv A outer s H vs Q E hr h => ⟨t_best_from K L spS, ?_, pure vs H Q E h⟩)
  exact (pss_cons (ps_if (pt_cmpR op_le (pe_callB call_len_seq (by rfl) T.n_len PySem.boot_len (pa_cons (pv 2) pa_nil)) (pv 1) (by rfl)) (pss_one (ps_ret (pv 2))) pss_nil)
      (pss_cons (ps_set (i := 3) sc_best_from.nd rfl (by first | exact Or.inl rfl | exact Or.inr rfl) pe_int)
      (pss_cons (ps_set (i := 4) sc_best_from.nd rfl (by first | exact Or.inl rfl | exact Or.inr rfl) (pe_lst pa_nil))
      (pss_cons (ps_for PassesOwn.never rfl (pi_list (C8.pe_c C_choices hr (by omega) (by rfl) (pa_cons (pv 2) (pa_cons (pv 1) pa_nil)))) (pg_name (i := 5) sc_best_from.nd rfl (by first | exact Or.inl rfl | exact Or.inr rfl)) (pss_cons (ps_set (i := 6) sc_best_from.nd rfl (by first | exact Or.inl rfl | exact Or.inr rfl) (pe_op op_cat (pv 5) (C8.pe_c C_best_from hr (by omega) (by rfl) (pa_cons (pv 0) (pa_cons (pv 1) (pa_cons (C8.pe_c C_front_behind hr (by omega) (by rfl) (pa_cons (pv 0) (pa_cons (pv 2) (pa_cons (pv 5) pa_nil)))) pa_nil))))))
      (pss_one (ps_if (pt_cmpR op_gt (C8.pe_c C_count_kept hr (by omega) (by rfl) (pa_cons (pv 0) (pa_cons (pv 6) pa_nil))) (pv 3) (by rfl)) (pss_cons (ps_set (i := 3) sc_best_from.nd rfl (by first | exact Or.inl rfl | exact Or.inr rfl) (C8.pe_c C_count_kept hr (by omega) (by rfl) (pa_cons (pv 0) (pa_cons (pv 6) pa_nil))))
      (pss_one (ps_set (i := 4) sc_best_from.nd rfl (by first | exact Or.inl rfl | exact Or.inr rfl) (pv 6)))) pss_nil))))
      (pss_one (ps_ret (pv 4)))))))
theorem ok_best_from (T : Txt K mg L) (h : Has K mg "best_from" s_best_from ["ways", "each", "front"]) (C_choices : C8.Cal P w K mg base 14 "choices" (sp_choices K L 13) []) (C_front_behind : C8.Cal P w K mg base 2 "front_behind" (sp_front_behind K L) []) (C_count_kept : C8.Cal P w K mg base 1 "count_kept" (sp_count_kept K L) [])
    (len : ∀ n vs H Q E, sp_best_from K L n vs H Q E → vs.length = 3) (zero : ∀ vs H Q E, sp_best_from K L 0 vs H Q E → False) (pure : ∀ n vs H Q E, sp_best_from K L (n + 1) vs H Q E → t_best_from K L (sp_best_from K L n) { nx := fun _ H' => Q .non H', rt := Q } (start N_best_from vs) H) :
    C8.Cal P w K mg base 28 "best_from" (sp_best_from K L 13) [] := by
  have all : ∀ n, C8.Cal P w K mg base (15 + n) "best_from" (sp_best_from K L n) [] := fun n => by
    induction n with
    | zero =>
      obtain ⟨f, fd, D, b⟩ := h.ex
      exact C8.cal0 (k := 14) D b .nil sc_best_from (len 0) (fun cdv A outer s H vs Q E hr h => (zero vs H Q E h).elim)
    | succ n ih => exact st_best_from T h C_choices C_front_behind C_count_kept ih (show 14 ≤ 15 + n by omega) (Nat.le_refl _) (len (n + 1)) (pure n)
  exact all 13
theorem ok_best_row (T : Txt K mg L) (h : Has K mg "best_row" s_best_row ["ways", "each"]) (C_best_from : C8.Cal P w K mg base 28 "best_from" (sp_best_from K L 13) []) (C_first_front : C8.Cal P w K mg base 2 "first_front" (sp_first_front K L) [])
    (len : ∀ vs H Q E, sp_best_row K L vs H Q E → vs.length = 2) (pure : ∀ vs H Q E, sp_best_row K L vs H Q E → t_best_row K L { nx := fun _ H' => Q .non H', rt := Q } (start N_best_row vs) H) :
    C8.Cal P w K mg base 29 "best_row" (sp_best_row K L) [] := by
  obtain ⟨f, fd, D, b⟩ := h.ex
  refine C8.cal0 (k := 28) D b .nil sc_best_row len (fun cdv A outer s H vs Q E hr h => ⟨t_best_row K L, ?_, pure vs H Q E h⟩)
  exact (pss_one (ps_ret (C8.pe_c C_best_from hr (by decide) (by rfl) (pa_cons (pv 0) (pa_cons (pv 1) (pa_cons (C8.pe_c C_first_front hr (by decide) (by rfl) (pa_cons (pv 0) pa_nil)) pa_nil))))))
theorem ok_greatest_first (T : Txt K mg L) (h : HasC K mg "greatest_first" s_greatest_first ["ways", "each"] L.cod) (C_first_front : C8.Cal P w K mg base 2 "first_front" (sp_first_front K L) []) (C_front_behind : C8.Cal P w K mg base 2 "front_behind" (sp_front_behind K L) []) (K_sort : SortAt K mg base L)
    (len : ∀ vs H Q E, sp_greatest_first K L vs H Q E → vs.length = 2) (pure : ∀ vs H Q E, sp_greatest_first K L vs H Q E → t_greatest_first K L { nx := fun _ H' => Q .non H', rt := Q } (start N_greatest_first vs) H) :
    C8.Cal P w K mg base 5 "greatest_first" (sp_greatest_first K L) [] := by
  obtain ⟨f, fd, D, b, hc⟩ := h.ex
  refine cal0c (k := 4) D hc b .nil sc_greatest_first len (fun A outer s H vs Q E hr h => ⟨t_greatest_first K L, ?_, pure vs H Q E h⟩)
  exact (pss_cons (ps_set (i := 2) sc_greatest_first.nd rfl (by first | exact Or.inl rfl | exact Or.inr rfl) (pe_lst pa_nil))
      (pss_cons (ps_set (i := 3) sc_greatest_first.nd rfl (by first | exact Or.inl rfl | exact Or.inr rfl) (C8.pe_c C_first_front hr (by decide) (by rfl) (pa_cons (pv 0) pa_nil)))
      (pss_cons (ps_while PassesOwn.never (pt_cmpR op_gt (pe_callB call_len_seq (by rfl) T.n_len PySem.boot_len (pa_cons (pv 3) pa_nil)) pe_int (by rfl)) (pss_cons (ps_set (i := 4) sc_greatest_first.nd rfl (by first | exact Or.inl rfl | exact Or.inr rfl) (pe_slice sl_list (pe_sortKey (k := 0) T K_sort rfl (hr.mono (by decide)) (by rfl) T.n_sorted (pa_cons (pv 3) pa_nil) rfl rfl (ndef_free (fr := F_key) (by show ndefB (C8.fnScope s_greatest_first) _ _ = true; decide +kernel)) (nscope_by (by decide +kernel)) (by decide +kernel) rfl (fun _ _ _ _ _ _ => rfl) (by rintro ⟨_, _, _, _, _, _, _⟩ f A outer s H rfl; exact pe_tup (pa_cons (pe_un un_neg (pe_ix ix_list (pe_fld (pv 1) rfl) (pv 0) (fun _ _ => rfl))) (pa_cons (pv 0) pa_nil)))) po_none (po_some (pv 1))))
      (pss_cons (ps_expr (pe_bm PySem.F.plainAttrs_list PySem.F.slot_list_extend PySem.F.type_list_extend mt_extend (pv 2) (pa_cons (pv 4) pa_nil)))
      (pss_one (ps_set (i := 3) sc_greatest_first.nd rfl (by first | exact Or.inl rfl | exact Or.inr rfl) (C8.pe_c C_front_behind hr (by decide) (by rfl) (pa_cons (pv 0) (pa_cons (pv 3) (pa_cons (pv 4) pa_nil)))))))))
      (pss_one (ps_ret (pv 2))))))
theorem ok_Session_init (T : Txt K mg L) (h : HasInit K mg "Session" L.C_Session "Session.__init__" s_Session_init ["self"]) 
    (len : ∀ vs H Q E, sp_Session_init K L vs H Q E → vs.length = 1) (pure : ∀ vs H Q E, sp_Session_init K L vs H Q E → t_Session_init K L { nx := fun _ H' => Q .non H', rt := Q } (start N_Session_init vs) H) :
    C8.Mak P w K mg base 1 "Session" L.C_Session (sp_Session_init K L) [] := by
  obtain ⟨f, fd, M, F, b⟩ := h.ex
  refine C8.mak0 (k := 0) M T.g_Session F b .nil sc_Session_init len (fun cdv A outer s H vs Q E hr h => ⟨t_Session_init K L, ?_, pure vs H Q E h⟩)
  exact (pss_cons (ps_fld (pv 0) (pe_lst pa_nil) rfl)
      (pss_cons (ps_fld (pv 0) pe_int rfl)
      (pss_cons (ps_fld (pv 0) pe_int rfl)
      (pss_cons (ps_fld (pv 0) pe_int rfl)
      (pss_cons (ps_fld (pv 0) (pe_lst pa_nil) rfl)
      (pss_one (ps_fld (pv 0) (pe_lst pa_nil) rfl)))))))
theorem ok_put_fire_back (T : Txt K mg L) (h : Has K mg "put_fire_back" s_put_fire_back ["session"]) 
    (len : ∀ vs H Q E, sp_put_fire_back K L vs H Q E → vs.length = 1) (pure : ∀ vs H Q E, sp_put_fire_back K L vs H Q E → t_put_fire_back K L { nx := fun _ H' => Q .non H', rt := Q } (start N_put_fire_back vs) H) :
    C8.Cal P w K mg base 1 "put_fire_back" (sp_put_fire_back K L) [] := by
  obtain ⟨f, fd, D, b⟩ := h.ex
  refine C8.cal0 (k := 0) D b .nil sc_put_fire_back len (fun cdv A outer s H vs Q E hr h => ⟨t_put_fire_back K L, ?_, pure vs H Q E h⟩)
  exact (pss_cons (ps_fld (pv 0) (pe_lst (pa_cons (pe_fld (pv 0) rfl) pa_nil)) rfl)
      (pss_cons (ps_fld (pv 0) (pe_lst pa_nil) rfl)
      (pss_one (ps_fld (pv 0) pe_int rfl))))
theorem ok_is_place (T : Txt K mg L) (h : Has K mg "is_place" s_is_place ["session", "p"]) 
    (len : ∀ vs H Q E, sp_is_place K L vs H Q E → vs.length = 2) (pure : ∀ vs H Q E, sp_is_place K L vs H Q E → t_is_place K L { nx := fun _ H' => Q .non H', rt := Q } (start N_is_place vs) H) :
    C8.Cal P w K mg base 1 "is_place" (sp_is_place K L) [] := by
  obtain ⟨f, fd, D, b⟩ := h.ex
  refine C8.cal0 (k := 0) D b .nil sc_is_place len (fun cdv A outer s H vs Q E hr h => ⟨t_is_place K L, ?_, pure vs H Q E h⟩)
  exact (pss_one (ps_ret (pe_cmpR op_lt (pv 1) (pe_callB call_len_seq (by rfl) T.n_len PySem.boot_len (pa_cons (pe_fld (pv 0) rfl) pa_nil)) (by rfl))))
theorem ok_is_under_way (T : Txt K mg L) (h : Has K mg "is_under_way" s_is_under_way ["session"]) 
    (len : ∀ vs H Q E, sp_is_under_way K L vs H Q E → vs.length = 1) (pure : ∀ vs H Q E, sp_is_under_way K L vs H Q E → t_is_under_way K L { nx := fun _ H' => Q .non H', rt := Q } (start N_is_under_way vs) H) :
    C8.Cal P w K mg base 1 "is_under_way" (sp_is_under_way K L) [] := by
  obtain ⟨f, fd, D, b⟩ := h.ex
  refine C8.cal0 (k := 0) D b .nil sc_is_under_way len (fun cdv A outer s H vs Q E hr h => ⟨t_is_under_way K L, ?_, pure vs H Q E h⟩)
  exact (pss_one (ps_ret (pe_or (pe_cmpR op_gt (pe_callB call_len_seq (by rfl) T.n_len PySem.boot_len (pa_cons (pe_fld (pv 0) rfl) pa_nil)) pe_int (by rfl)) (pe_one (pe_cmpR op_gt (pe_callB call_len_seq (by rfl) T.n_len PySem.boot_len (pa_cons (pe_fld (pv 0) rfl) pa_nil)) pe_int (by rfl))))))
theorem ok_catches (T : Txt K mg L) (h : Has K mg "catches" s_catches ["session", "p", "burning"]) 
    (len : ∀ vs H Q E, sp_catches K L vs H Q E → vs.length = 3) (pure : ∀ vs H Q E, sp_catches K L vs H Q E → t_catches K L { nx := fun _ H' => Q .non H', rt := Q } (start N_catches vs) H) :
    C8.Cal P w K mg base 1 "catches" (sp_catches K L) [] := by
  obtain ⟨f, fd, D, b⟩ := h.ex
  refine C8.cal0 (k := 0) D b .nil sc_catches len (fun cdv A outer s H vs Q E hr h => ⟨t_catches K L, ?_, pure vs H Q E h⟩)
  exact (pss_cons (ps_if (pt_cmpR op_in_seq (pv 1) (pe_fld (pv 0) rfl) (by rfl)) (pss_one (ps_ret pe_bl)) pss_nil)
      (pss_one (ps_ret (pe_callB (cr_any rfl) (by rfl) T.n_any (by decide +kernel) (pa_cons (pe_lc (own := [("q", 3)]) (g := gName 3) (tt := tYes) (te := (tOrV (tOp rEq (tOp (rIxL K) (tFld K (tVar 0) "joined") (tVar 1)) (tVar 3)) (tOp rEq (tOp (rIxL K) (tFld K (tVar 0) "joined") (tVar 3)) (tVar 1)))) rfl sc_catches.nd (pi_list (pv 2)) (blkOk_by (N := N_catches) (sc := (C8.fnScope s_catches)) (by decide +kernel)) (fun _ _ _ _ _ => pg_name (i := 3) sc_catches.nd rfl (Or.inl rfl)) (fun _ _ _ _ _ => pts_nil) (fun _ _ _ _ _ => (pe_or (pe_cmpR op_eq (pe_ix ix_list (pe_fld (pv 0) rfl) (pv 1) (fun _ _ => rfl)) (pv 3) (by rfl)) (pe_one (pe_cmpR op_eq (pe_ix ix_list (pe_fld (pv 0) rfl) (pv 3) (fun _ _ => rfl)) (pv 1) (by rfl)))))) pa_nil)))))
theorem ok_gone_on (T : Txt K mg L) (h : Has K mg "gone_on" s_gone_on ["session", "burning"]) (C_catches : C8.Cal P w K mg base 1 "catches" (sp_catches K L) [])
    (len : ∀ vs H Q E, sp_gone_on K L vs H Q E → vs.length = 2) (pure : ∀ vs H Q E, sp_gone_on K L vs H Q E → t_gone_on K L { nx := fun _ H' => Q .non H', rt := Q } (start N_gone_on vs) H) :
    C8.Cal P w K mg base 2 "gone_on" (sp_gone_on K L) [] := by
  obtain ⟨f, fd, D, b⟩ := h.ex
  refine C8.cal0 (k := 1) D b .nil sc_gone_on len (fun cdv A outer s H vs Q E hr h => ⟨t_gone_on K L, ?_, pure vs H Q E h⟩)
  exact (pss_one (ps_ret (pe_lc (own := [("p", 2)]) (g := gName 2) (tt := (tOr (tTest (tOp (rIn K false) (tVar 2) (tVar 1))) (tB (tCall (sp_catches K L) [] C8.E0 (tCons (tVar 0) (tCons (tVar 2) (tCons (tVar 1) tNil))))))) (te := (tVar 2)) rfl sc_gone_on.nd (pi_range1 (by rfl) T.n_range (pa_cons (pe_callB call_len_seq (by rfl) T.n_len PySem.boot_len (pa_cons (pe_fld (pv 0) rfl) pa_nil)) pa_nil)) (blkOk_by (N := N_gone_on) (sc := (C8.fnScope s_gone_on)) (by decide +kernel)) (fun _ _ _ _ _ => pg_name (i := 2) sc_gone_on.nd rfl (Or.inl rfl)) (fun _ _ _ _ _ => (pts_one (PW.pt (pw_or (pt_cmpR op_in_seq (pv 2) (pv 1) (by rfl)) (pw_or1 (pt_val (C8.pe_c C_catches hr (by decide) (by rfl) (pa_cons (pv 0) (pa_cons (pv 2) (pa_cons (pv 1) pa_nil)))))))))) (fun _ _ _ _ _ => (pv 2)))))
theorem ok_counted (T : Txt K mg L) (h : Has K mg "counted" s_counted ["places"]) 
    (len : ∀ vs H Q E, sp_counted K L vs H Q E → vs.length = 1) (pure : ∀ vs H Q E, sp_counted K L vs H Q E → t_counted K L { nx := fun _ H' => Q .non H', rt := Q } (start N_counted vs) H) :
    C8.Cal P w K mg base 1 "counted" (sp_counted K L) [] := by
  obtain ⟨f, fd, D, b⟩ := h.ex
  refine C8.cal0 (k := 0) D b .nil sc_counted len (fun cdv A outer s H vs Q E hr h => ⟨t_counted K L, ?_, pure vs H Q E h⟩)
  exact (pss_one (ps_ret (pe_op op_cat (pe_lst (pa_cons (pe_callB call_len_seq (by rfl) T.n_len PySem.boot_len (pa_cons (pv 0) pa_nil)) pa_nil)) (pv 0))))
theorem ok_begin (T : Txt K mg L) (h : Has K mg "begin" s_begin ["session"]) (C_put_fire_back : C8.Cal P w K mg base 1 "put_fire_back" (sp_put_fire_back K L) [])
    (len : ∀ vs H Q E, sp_begin K L vs H Q E → vs.length = 1) (pure : ∀ vs H Q E, sp_begin K L vs H Q E → t_begin K L { nx := fun _ H' => Q .non H', rt := Q } (start N_begin vs) H) :
    C8.Cal P w K mg base 2 "begin" (sp_begin K L) [] := by
  obtain ⟨f, fd, D, b⟩ := h.ex
  refine C8.cal0 (k := 1) D b .nil sc_begin len (fun cdv A outer s H vs Q E hr h => ⟨t_begin K L, ?_, pure vs H Q E h⟩)
  exact (pss_cons (ps_fld (pv 0) (pe_lst (pa_cons pe_non pa_nil)) rfl)
      (pss_cons (ps_fld (pv 0) pe_int rfl)
      (pss_cons (ps_fld (pv 0) pe_int rfl)
      (pss_cons (ps_expr (C8.pe_c C_put_fire_back hr (by decide) (by rfl) (pa_cons (pv 0) pa_nil)))
      (pss_one (ps_ret (pe_lst (pa_cons pe_int pa_nil))))))))
theorem ok_join (T : Txt K mg L) (h : Has K mg "join" s_join ["session", "p"]) (C_is_place : C8.Cal P w K mg base 1 "is_place" (sp_is_place K L) []) (C_is_under_way : C8.Cal P w K mg base 1 "is_under_way" (sp_is_under_way K L) [])
    (len : ∀ vs H Q E, sp_join K L vs H Q E → vs.length = 2) (pure : ∀ vs H Q E, sp_join K L vs H Q E → t_join K L { nx := fun _ H' => Q .non H', rt := Q } (start N_join vs) H) :
    C8.Cal P w K mg base 2 "join" (sp_join K L) [] := by
  obtain ⟨f, fd, D, b⟩ := h.ex
  refine C8.cal0 (k := 1) D b .nil sc_join len (fun cdv A outer s H vs Q E hr h => ⟨t_join K L, ?_, pure vs H Q E h⟩)
  exact (pss_cons (ps_if (pt_not (pt_val (C8.pe_c C_is_place hr (by decide) (by rfl) (pa_cons (pv 0) (pa_cons (pv 1) pa_nil))))) (pss_one (ps_ret (pe_lst (pa_cons (C8.pe_gc (by rfl) T.c_NO_SUCH_PLACE) pa_nil)))) pss_nil)
      (pss_cons (ps_if (pt_val (C8.pe_c C_is_under_way hr (by decide) (by rfl) (pa_cons (pv 0) pa_nil))) (pss_one (ps_ret (pe_lst (pa_cons (C8.pe_gc (by rfl) T.c_UNDER_WAY) pa_nil)))) pss_nil)
      (pss_cons (ps_if (pt_cmpR op_eq (pe_callB call_len_seq (by rfl) T.n_len PySem.boot_len (pa_cons (pe_fld (pv 0) rfl) pa_nil)) (C8.pe_gc (by rfl) T.c_MOST_PLACES) (by rfl)) (pss_one (ps_ret (pe_lst (pa_cons (C8.pe_gc (by rfl) T.c_TOO_MANY) pa_nil)))) pss_nil)
      (pss_cons (ps_expr (pe_bm PySem.F.plainAttrs_list PySem.F.slot_list_append PySem.F.type_list_append mt_append (pe_fld (pv 0) rfl) (pa_cons (pv 1) pa_nil)))
      (pss_one (ps_ret (pe_lst (pa_cons (pe_op op_sub (pe_callB call_len_seq (by rfl) T.n_len PySem.boot_len (pa_cons (pe_fld (pv 0) rfl) pa_nil)) pe_int) pa_nil))))))))
theorem ok_drop (T : Txt K mg L) (h : Has K mg "drop" s_drop ["session"]) (C_is_under_way : C8.Cal P w K mg base 1 "is_under_way" (sp_is_under_way K L) [])
    (len : ∀ vs H Q E, sp_drop K L vs H Q E → vs.length = 1) (pure : ∀ vs H Q E, sp_drop K L vs H Q E → t_drop K L { nx := fun _ H' => Q .non H', rt := Q } (start N_drop vs) H) :
    C8.Cal P w K mg base 2 "drop" (sp_drop K L) [] := by
  obtain ⟨f, fd, D, b⟩ := h.ex
  refine C8.cal0 (k := 1) D b .nil sc_drop len (fun cdv A outer s H vs Q E hr h => ⟨t_drop K L, ?_, pure vs H Q E h⟩)
  exact (pss_cons (ps_if (pt_val (C8.pe_c C_is_under_way hr (by decide) (by rfl) (pa_cons (pv 0) pa_nil))) (pss_one (ps_ret (pe_lst (pa_cons (C8.pe_gc (by rfl) T.c_UNDER_WAY) pa_nil)))) pss_nil)
      (pss_cons (ps_if (pt_cmpR op_eq (pe_callB call_len_seq (by rfl) T.n_len PySem.boot_len (pa_cons (pe_fld (pv 0) rfl) pa_nil)) pe_int (by rfl)) (pss_one (ps_ret (pe_lst (pa_cons (C8.pe_gc (by rfl) T.c_ONLY_ONE) pa_nil)))) pss_nil)
      (pss_cons (ps_if (pt_cmpR op_eq (pe_fld (pv 0) rfl) (pe_op op_sub (pe_callB call_len_seq (by rfl) T.n_len PySem.boot_len (pa_cons (pe_fld (pv 0) rfl) pa_nil)) pe_int) (by rfl)) (pss_one (ps_ret (pe_lst (pa_cons (C8.pe_gc (by rfl) T.c_ALREADY_SO) pa_nil)))) pss_nil)
      (pss_cons (ps_expr (pe_bm0 PySem.F.plainAttrs_list PySem.F.slot_list_pop PySem.F.type_list_pop mt_pop (pe_fld (pv 0) rfl)))
      (pss_one (ps_ret (pe_lst (pa_cons (pe_callB call_len_seq (by rfl) T.n_len PySem.boot_len (pa_cons (pe_fld (pv 0) rfl) pa_nil)) pa_nil))))))))
theorem ok_fire (T : Txt K mg L) (h : Has K mg "fire" s_fire ["session", "p"]) (C_is_place : C8.Cal P w K mg base 1 "is_place" (sp_is_place K L) []) (C_put_fire_back : C8.Cal P w K mg base 1 "put_fire_back" (sp_put_fire_back K L) [])
    (len : ∀ vs H Q E, sp_fire K L vs H Q E → vs.length = 2) (pure : ∀ vs H Q E, sp_fire K L vs H Q E → t_fire K L { nx := fun _ H' => Q .non H', rt := Q } (start N_fire vs) H) :
    C8.Cal P w K mg base 2 "fire" (sp_fire K L) [] := by
  obtain ⟨f, fd, D, b⟩ := h.ex
  refine C8.cal0 (k := 1) D b .nil sc_fire len (fun cdv A outer s H vs Q E hr h => ⟨t_fire K L, ?_, pure vs H Q E h⟩)
  exact (pss_cons (ps_if (pt_not (pt_val (C8.pe_c C_is_place hr (by decide) (by rfl) (pa_cons (pv 0) (pa_cons (pv 1) pa_nil))))) (pss_one (ps_ret (pe_lst (pa_cons (C8.pe_gc (by rfl) T.c_NO_SUCH_PLACE) pa_nil)))) pss_nil)
      (pss_cons (ps_set (i := 2) sc_fire.nd rfl (by first | exact Or.inl rfl | exact Or.inr rfl) (pe_fld (pv 0) rfl))
      (pss_cons (ps_fld (pv 0) (pv 1) rfl)
      (pss_cons (ps_expr (C8.pe_c C_put_fire_back hr (by decide) (by rfl) (pa_cons (pv 0) pa_nil)))
      (pss_one (ps_ret (pe_lst (pa_cons (pv 2) pa_nil))))))))
theorem ok_each (T : Txt K mg L) (h : Has K mg "each" s_each ["session", "n"]) (C_put_fire_back : C8.Cal P w K mg base 1 "put_fire_back" (sp_put_fire_back K L) [])
    (len : ∀ vs H Q E, sp_each K L vs H Q E → vs.length = 2) (pure : ∀ vs H Q E, sp_each K L vs H Q E → t_each K L { nx := fun _ H' => Q .non H', rt := Q } (start N_each vs) H) :
    C8.Cal P w K mg base 2 "each" (sp_each K L) [] := by
  obtain ⟨f, fd, D, b⟩ := h.ex
  refine C8.cal0 (k := 1) D b .nil sc_each len (fun cdv A outer s H vs Q E hr h => ⟨t_each K L, ?_, pure vs H Q E h⟩)
  exact (pss_cons (ps_if (pt_cmpR op_notIn_seq (pv 1) (pe_tup (pa_cons pe_int (pa_cons pe_int pa_nil))) (by rfl)) (pss_one (ps_ret (pe_lst (pa_cons (C8.pe_gc (by rfl) T.c_OUT_OF_RANGE) pa_nil)))) pss_nil)
      (pss_cons (ps_set (i := 2) sc_each.nd rfl (by first | exact Or.inl rfl | exact Or.inr rfl) (pe_fld (pv 0) rfl))
      (pss_cons (ps_fld (pv 0) (pv 1) rfl)
      (pss_cons (ps_expr (C8.pe_c C_put_fire_back hr (by decide) (by rfl) (pa_cons (pv 0) pa_nil)))
      (pss_one (ps_ret (pe_lst (pa_cons (pv 2) pa_nil))))))))
theorem ok_save (T : Txt K mg L) (h : Has K mg "save" s_save ["session", "p"]) (C_is_place : C8.Cal P w K mg base 1 "is_place" (sp_is_place K L) [])
    (len : ∀ vs H Q E, sp_save K L vs H Q E → vs.length = 2) (pure : ∀ vs H Q E, sp_save K L vs H Q E → t_save K L { nx := fun _ H' => Q .non H', rt := Q } (start N_save vs) H) :
    C8.Cal P w K mg base 2 "save" (sp_save K L) [] := by
  obtain ⟨f, fd, D, b⟩ := h.ex
  refine C8.cal0 (k := 1) D b .nil sc_save len (fun cdv A outer s H vs Q E hr h => ⟨t_save K L, ?_, pure vs H Q E h⟩)
  exact (pss_cons (ps_if (pt_not (pt_val (C8.pe_c C_is_place hr (by decide) (by rfl) (pa_cons (pv 0) (pa_cons (pv 1) pa_nil))))) (pss_one (ps_ret (pe_lst (pa_cons (C8.pe_gc (by rfl) T.c_NO_SUCH_PLACE) pa_nil)))) pss_nil)
      (pss_cons (ps_if (pt_cmpR op_in_seq (pv 1) (pe_fld (pv 0) rfl) (by rfl)) (pss_one (ps_ret (pe_lst (pa_cons (C8.pe_gc (by rfl) T.c_IT_BURNS) pa_nil)))) pss_nil)
      (pss_cons (ps_if (pt_cmpR op_in_seq (pv 1) (pe_fld (pv 0) rfl) (by rfl)) (pss_one (ps_ret (pe_lst (pa_cons (C8.pe_gc (by rfl) T.c_ALREADY_SO) pa_nil)))) pss_nil)
      (pss_cons (ps_if (pt_cmpR op_eq (pe_fld (pv 0) rfl) (pe_fld (pv 0) rfl) (by rfl)) (pss_one (ps_ret (pe_lst (pa_cons (C8.pe_gc (by rfl) T.c_TOO_MANY) pa_nil)))) pss_nil)
      (pss_cons (ps_expr (pe_bm PySem.F.plainAttrs_list PySem.F.slot_list_append PySem.F.type_list_append mt_append (pe_fld (pv 0) rfl) (pa_cons (pv 1) pa_nil)))
      (pss_cons (ps_fldaug (pv 0) pe_int in_add)
      (pss_one (ps_ret (pe_lst (pa_cons (pe_callB call_len_seq (by rfl) T.n_len PySem.boot_len (pa_cons (pe_fld (pv 0) rfl) pa_nil)) pa_nil))))))))))
theorem ok_turn (T : Txt K mg L) (h : Has K mg "turn" s_turn ["session"]) (C_gone_on : C8.Cal P w K mg base 2 "gone_on" (sp_gone_on K L) [])
    (len : ∀ vs H Q E, sp_turn K L vs H Q E → vs.length = 1) (pure : ∀ vs H Q E, sp_turn K L vs H Q E → t_turn K L { nx := fun _ H' => Q .non H', rt := Q } (start N_turn vs) H) :
    C8.Cal P w K mg base 3 "turn" (sp_turn K L) [] := by
  obtain ⟨f, fd, D, b⟩ := h.ex
  refine C8.cal0 (k := 2) D b .nil sc_turn len (fun cdv A outer s H vs Q E hr h => ⟨t_turn K L, ?_, pure vs H Q E h⟩)
  exact (pss_cons (ps_set (i := 1) sc_turn.nd rfl (by first | exact Or.inl rfl | exact Or.inr rfl) (pe_callB call_len_seq (by rfl) T.n_len PySem.boot_len (pa_cons (pe_fld (pv 0) rfl) pa_nil)))
      (pss_cons (ps_fld (pv 0) (C8.pe_c C_gone_on hr (by decide) (by rfl) (pa_cons (pv 0) (pa_cons (pe_fld (pv 0) rfl) pa_nil))) rfl)
      (pss_cons (ps_fld (pv 0) pe_int rfl)
      (pss_one (ps_ret (pe_lst (pa_cons (pe_op op_sub (pe_callB call_len_seq (by rfl) T.n_len PySem.boot_len (pa_cons (pe_fld (pv 0) rfl) pa_nil)) (pv 1)) (pa_cons (pe_callB call_len_seq (by rfl) T.n_len PySem.boot_len (pa_cons (pe_fld (pv 0) rfl) pa_nil)) pa_nil))))))))
theorem ok_again (T : Txt K mg L) (h : Has K mg "again" s_again ["session"]) (C_put_fire_back : C8.Cal P w K mg base 1 "put_fire_back" (sp_put_fire_back K L) [])
    (len : ∀ vs H Q E, sp_again K L vs H Q E → vs.length = 1) (pure : ∀ vs H Q E, sp_again K L vs H Q E → t_again K L { nx := fun _ H' => Q .non H', rt := Q } (start N_again vs) H) :
    C8.Cal P w K mg base 2 "again" (sp_again K L) [] := by
  obtain ⟨f, fd, D, b⟩ := h.ex
  refine C8.cal0 (k := 1) D b .nil sc_again len (fun cdv A outer s H vs Q E hr h => ⟨t_again K L, ?_, pure vs H Q E h⟩)
  exact (pss_cons (ps_set (i := 1) sc_again.nd rfl (by first | exact Or.inl rfl | exact Or.inr rfl) (pe_lst (pa_cons (pe_callB call_len_seq (by rfl) T.n_len PySem.boot_len (pa_cons (pe_fld (pv 0) rfl) pa_nil)) (pa_cons (pe_callB call_len_seq (by rfl) T.n_len PySem.boot_len (pa_cons (pe_fld (pv 0) rfl) pa_nil)) pa_nil))))
      (pss_cons (ps_expr (C8.pe_c C_put_fire_back hr (by decide) (by rfl) (pa_cons (pv 0) pa_nil)))
      (pss_one (ps_ret (pv 1)))))
theorem ok_burns (T : Txt K mg L) (h : Has K mg "burns" s_burns ["session"]) (C_counted : C8.Cal P w K mg base 1 "counted" (sp_counted K L) [])
    (len : ∀ vs H Q E, sp_burns K L vs H Q E → vs.length = 1) (pure : ∀ vs H Q E, sp_burns K L vs H Q E → t_burns K L { nx := fun _ H' => Q .non H', rt := Q } (start N_burns vs) H) :
    C8.Cal P w K mg base 2 "burns" (sp_burns K L) [] := by
  obtain ⟨f, fd, D, b⟩ := h.ex
  refine C8.cal0 (k := 1) D b .nil sc_burns len (fun cdv A outer s H vs Q E hr h => ⟨t_burns K L, ?_, pure vs H Q E h⟩)
  exact (pss_one (ps_ret (C8.pe_c C_counted hr (by decide) (by rfl) (pa_cons (pe_fld (pv 0) rfl) pa_nil))))
theorem ok_saved (T : Txt K mg L) (h : Has K mg "saved" s_saved ["session"]) (C_counted : C8.Cal P w K mg base 1 "counted" (sp_counted K L) [])
    (len : ∀ vs H Q E, sp_saved K L vs H Q E → vs.length = 1) (pure : ∀ vs H Q E, sp_saved K L vs H Q E → t_saved K L { nx := fun _ H' => Q .non H', rt := Q } (start N_saved vs) H) :
    C8.Cal P w K mg base 2 "saved" (sp_saved K L) [] := by
  obtain ⟨f, fd, D, b⟩ := h.ex
  refine C8.cal0 (k := 1) D b .nil sc_saved len (fun cdv A outer s H vs Q E hr h => ⟨t_saved K L, ?_, pure vs H Q E h⟩)
  exact (pss_one (ps_ret (C8.pe_c C_counted hr (by decide) (by rfl) (pa_cons (pe_fld (pv 0) rfl) pa_nil))))
theorem ok_safe (T : Txt K mg L) (h : Has K mg "safe" s_safe ["session"]) (C_gone_on : C8.Cal P w K mg base 2 "gone_on" (sp_gone_on K L) []) (C_counted : C8.Cal P w K mg base 1 "counted" (sp_counted K L) [])
    (len : ∀ vs H Q E, sp_safe K L vs H Q E → vs.length = 1) (pure : ∀ vs H Q E, sp_safe K L vs H Q E → t_safe K L { nx := fun _ H' => Q .non H', rt := Q } (start N_safe vs) H) :
    C8.Cal P w K mg base 3 "safe" (sp_safe K L) [] := by
  obtain ⟨f, fd, D, b⟩ := h.ex
  refine C8.cal0 (k := 2) D b .nil sc_safe len (fun cdv A outer s H vs Q E hr h => ⟨t_safe K L, ?_, pure vs H Q E h⟩)
  exact (pss_cons (ps_set (i := 1) sc_safe.nd rfl (by first | exact Or.inl rfl | exact Or.inr rfl) (pe_fld (pv 0) rfl))
      (pss_cons (ps_set (i := 2) sc_safe.nd rfl (by first | exact Or.inl rfl | exact Or.inr rfl) (C8.pe_c C_gone_on hr (by decide) (by rfl) (pa_cons (pv 0) (pa_cons (pv 1) pa_nil))))
      (pss_cons (ps_while PassesOwn.never (pt_cmpR op_gt (pe_callB call_len_seq (by rfl) T.n_len PySem.boot_len (pa_cons (pv 2) pa_nil)) (pe_callB call_len_seq (by rfl) T.n_len PySem.boot_len (pa_cons (pv 1) pa_nil)) (by rfl)) (pss_cons (ps_set (i := 1) sc_safe.nd rfl (by first | exact Or.inl rfl | exact Or.inr rfl) (pv 2))
      (pss_one (ps_set (i := 2) sc_safe.nd rfl (by first | exact Or.inl rfl | exact Or.inr rfl) (C8.pe_c C_gone_on hr (by decide) (by rfl) (pa_cons (pv 0) (pa_cons (pv 1) pa_nil)))))))
      (pss_one (ps_ret (C8.pe_c C_counted hr (by decide) (by rfl) (pa_cons (pe_lc (own := [("p", 3)]) (g := gName 3) (tt := (tTest (tOp (rIn K true) (tVar 3) (tVar 1)))) (te := (tVar 3)) rfl sc_safe.nd (pi_range1 (by rfl) T.n_range (pa_cons (pe_callB call_len_seq (by rfl) T.n_len PySem.boot_len (pa_cons (pe_fld (pv 0) rfl) pa_nil)) pa_nil)) (blkOk_by (N := N_safe) (sc := (C8.fnScope s_safe)) (by decide +kernel)) (fun _ _ _ _ _ => pg_name (i := 3) sc_safe.nd rfl (Or.inl rfl)) (fun _ _ _ _ _ => (pts_one (pt_cmpR op_notIn_seq (pv 3) (pv 1) (by rfl)))) (fun _ _ _ _ _ => (pv 3))) pa_nil)))))))
theorem ok_state (T : Txt K mg L) (h : Has K mg "state" s_state ["session"]) 
    (len : ∀ vs H Q E, sp_state K L vs H Q E → vs.length = 1) (pure : ∀ vs H Q E, sp_state K L vs H Q E → t_state K L { nx := fun _ H' => Q .non H', rt := Q } (start N_state vs) H) :
    C8.Cal P w K mg base 1 "state" (sp_state K L) [] := by
  obtain ⟨f, fd, D, b⟩ := h.ex
  refine C8.cal0 (k := 0) D b .nil sc_state len (fun cdv A outer s H vs Q E hr h => ⟨t_state K L, ?_, pure vs H Q E h⟩)
  exact (pss_one (ps_ret (pe_op op_cat (pe_lst (pa_cons (pe_callB call_len_seq (by rfl) T.n_len PySem.boot_len (pa_cons (pe_fld (pv 0) rfl) pa_nil)) (pa_cons (pe_fld (pv 0) rfl) (pa_cons (pe_fld (pv 0) rfl) (pa_cons (pe_fld (pv 0) rfl) pa_nil))))) (pe_slice sl_list (pe_fld (pv 0) rfl) (po_some pe_int) po_none))))
theorem ok_ways_now (T : Txt K mg L) (h : Has K mg "ways_now" s_ways_now ["session"]) (C_ways_to : C8.Cal P w K mg base 3 "ways_to" (sp_ways_to K L) [])
    (len : ∀ vs H Q E, sp_ways_now K L vs H Q E → vs.length = 1) (pure : ∀ vs H Q E, sp_ways_now K L vs H Q E → t_ways_now K L { nx := fun _ H' => Q .non H', rt := Q } (start N_ways_now vs) H) :
    C8.Cal P w K mg base 4 "ways_now" (sp_ways_now K L) [] := by
  obtain ⟨f, fd, D, b⟩ := h.ex
  refine C8.cal0 (k := 3) D b .nil sc_ways_now len (fun cdv A outer s H vs Q E hr h => ⟨t_ways_now K L, ?_, pure vs H Q E h⟩)
  exact (pss_one (ps_ret (C8.pe_c C_ways_to hr (by decide) (by rfl) (pa_cons (pe_fld (pv 0) rfl) (pa_cons (pe_fld (pv 0) rfl) pa_nil)))))
theorem ok_are_in_range (T : Txt K mg L) (h : Has K mg "are_in_range" s_are_in_range ["session", "places"]) (C_is_place : C8.Cal P w K mg base 1 "is_place" (sp_is_place K L) [])
    (len : ∀ vs H Q E, sp_are_in_range K L vs H Q E → vs.length = 2) (pure : ∀ vs H Q E, sp_are_in_range K L vs H Q E → t_are_in_range K L { nx := fun _ H' => Q .non H', rt := Q } (start N_are_in_range vs) H) :
    C8.Cal P w K mg base 2 "are_in_range" (sp_are_in_range K L) [] := by
  obtain ⟨f, fd, D, b⟩ := h.ex
  refine C8.cal0 (k := 1) D b .nil sc_are_in_range len (fun cdv A outer s H vs Q E hr h => ⟨t_are_in_range K L, ?_, pure vs H Q E h⟩)
  exact (pss_one (ps_ret (pe_and (pe_cmpR op_le (pe_callB call_len_seq (by rfl) T.n_len PySem.boot_len (pa_cons (pv 1) pa_nil)) (C8.pe_gc (by rfl) T.c_MOST_PLACES) (by rfl)) (pe_one (pe_callB (cr_all rfl) (by rfl) T.n_all (by decide +kernel) (pa_cons (pe_lc (own := [("p", 2)]) (g := gName 2) (tt := tYes) (te := (tCall (sp_is_place K L) [] C8.E0 (tCons (tVar 0) (tCons (tVar 2) tNil)))) rfl sc_are_in_range.nd (pi_list (pv 1)) (blkOk_by (N := N_are_in_range) (sc := (C8.fnScope s_are_in_range)) (by decide +kernel)) (fun _ _ _ _ _ => pg_name (i := 2) sc_are_in_range.nd rfl (Or.inl rfl)) (fun _ _ _ _ _ => pts_nil) (fun _ _ _ _ _ => (C8.pe_c C_is_place hr (by decide) (by rfl) (pa_cons (pv 0) (pa_cons (pv 2) pa_nil))))) pa_nil))))))
theorem ok_at_beginning (T : Txt K mg L) (h : Has K mg "at_beginning" s_at_beginning ["session"]) (C_Session : C8.Mak P w K mg base 1 "Session" L.C_Session (sp_Session_init K L) []) (C_put_fire_back : C8.Cal P w K mg base 1 "put_fire_back" (sp_put_fire_back K L) [])
    (len : ∀ vs H Q E, sp_at_beginning K L vs H Q E → vs.length = 1) (pure : ∀ vs H Q E, sp_at_beginning K L vs H Q E → t_at_beginning K L { nx := fun _ H' => Q .non H', rt := Q } (start N_at_beginning vs) H) :
    C8.Cal P w K mg base 3 "at_beginning" (sp_at_beginning K L) [] := by
  obtain ⟨f, fd, D, b⟩ := h.ex
  refine C8.cal0 (k := 2) D b .nil sc_at_beginning len (fun cdv A outer s H vs Q E hr h => ⟨t_at_beginning K L, ?_, pure vs H Q E h⟩)
  exact (pss_cons (ps_set (i := 1) sc_at_beginning.nd rfl (by first | exact Or.inl rfl | exact Or.inr rfl) (pe_mk0 C_Session hr (by decide) (by rfl)))
      (pss_cons (ps_fld (pv 1) (pe_callTy call_list_of (by rfl) T.n_list (by decide +kernel) (pa_cons (pe_fld (pv 0) rfl) pa_nil)) rfl)
      (pss_cons (ps_fld (pv 1) (pe_fld (pv 0) rfl) rfl)
      (pss_cons (ps_fld (pv 1) (pe_fld (pv 0) rfl) rfl)
      (pss_cons (ps_expr (C8.pe_c C_put_fire_back hr (by decide) (by rfl) (pa_cons (pv 1) pa_nil)))
      (pss_one (ps_ret (pv 1))))))))
theorem ok_most_kept (T : Txt K mg L) (h : Has K mg "most_kept" s_most_kept ["session", "origin", "each"]) (C_ways_to : C8.Cal P w K mg base 3 "ways_to" (sp_ways_to K L) []) (C_count_kept : C8.Cal P w K mg base 1 "count_kept" (sp_count_kept K L) []) (C_best_row : C8.Cal P w K mg base 29 "best_row" (sp_best_row K L) [])
    (len : ∀ vs H Q E, sp_most_kept K L vs H Q E → vs.length = 3) (pure : ∀ vs H Q E, sp_most_kept K L vs H Q E → t_most_kept K L { nx := fun _ H' => Q .non H', rt := Q } (start N_most_kept vs) H) :
    C8.Cal P w K mg base 30 "most_kept" (sp_most_kept K L) [] := by
  obtain ⟨f, fd, D, b⟩ := h.ex
  refine C8.cal0 (k := 29) D b .nil sc_most_kept len (fun cdv A outer s H vs Q E hr h => ⟨t_most_kept K L, ?_, pure vs H Q E h⟩)
  exact (pss_cons (ps_set (i := 3) sc_most_kept.nd rfl (by first | exact Or.inl rfl | exact Or.inr rfl) (C8.pe_c C_ways_to hr (by decide) (by rfl) (pa_cons (pe_fld (pv 0) rfl) (pa_cons (pv 1) pa_nil))))
      (pss_one (ps_ret (C8.pe_c C_count_kept hr (by decide) (by rfl) (pa_cons (pv 3) (pa_cons (C8.pe_c C_best_row hr (by decide) (by rfl) (pa_cons (pv 3) (pa_cons (pv 2) pa_nil))) pa_nil))))))
theorem ok_most_by_origin (T : Txt K mg L) (h : Has K mg "most_by_origin" s_most_by_origin ["session"]) (C_most_kept : C8.Cal P w K mg base 30 "most_kept" (sp_most_kept K L) [])
    (len : ∀ vs H Q E, sp_most_by_origin K L vs H Q E → vs.length = 1) (pure : ∀ vs H Q E, sp_most_by_origin K L vs H Q E → t_most_by_origin K L { nx := fun _ H' => Q .non H', rt := Q } (start N_most_by_origin vs) H) :
    C8.Cal P w K mg base 31 "most_by_origin" (sp_most_by_origin K L) [] := by
  obtain ⟨f, fd, D, b⟩ := h.ex
  refine C8.cal0 (k := 30) D b .nil sc_most_by_origin len (fun cdv A outer s H vs Q E hr h => ⟨t_most_by_origin K L, ?_, pure vs H Q E h⟩)
  exact (pss_one (ps_ret (pe_lc (own := [("p", 1)]) (g := gName 1) (tt := tYes) (te := (tCall (sp_most_kept K L) [] C8.E0 (tCons (tVar 0) (tCons (tVar 1) (tCons (tFld K (tVar 0) "each") tNil))))) rfl sc_most_by_origin.nd (pi_range1 (by rfl) T.n_range (pa_cons (pe_callB call_len_seq (by rfl) T.n_len PySem.boot_len (pa_cons (pe_fld (pv 0) rfl) pa_nil)) pa_nil)) (blkOk_by (N := N_most_by_origin) (sc := (C8.fnScope s_most_by_origin)) (by decide +kernel)) (fun _ _ _ _ _ => pg_name (i := 1) sc_most_by_origin.nd rfl (Or.inl rfl)) (fun _ _ _ _ _ => pts_nil) (fun _ _ _ _ _ => (C8.pe_c C_most_kept hr (by decide) (by rfl) (pa_cons (pv 0) (pa_cons (pv 1) (pa_cons (pe_fld (pv 0) rfl) pa_nil))))))))
theorem ok_best (T : Txt K mg L) (h : Has K mg "best" s_best ["session"]) (C_ways_now : C8.Cal P w K mg base 4 "ways_now" (sp_ways_now K L) []) (C_best_row : C8.Cal P w K mg base 29 "best_row" (sp_best_row K L) []) (C_count_kept : C8.Cal P w K mg base 1 "count_kept" (sp_count_kept K L) [])
    (len : ∀ vs H Q E, sp_best K L vs H Q E → vs.length = 1) (pure : ∀ vs H Q E, sp_best K L vs H Q E → t_best K L { nx := fun _ H' => Q .non H', rt := Q } (start N_best vs) H) :
    C8.Cal P w K mg base 30 "best" (sp_best K L) [] := by
  obtain ⟨f, fd, D, b⟩ := h.ex
  refine C8.cal0 (k := 29) D b .nil sc_best len (fun cdv A outer s H vs Q E hr h => ⟨t_best K L, ?_, pure vs H Q E h⟩)
  exact (pss_cons (ps_set (i := 1) sc_best.nd rfl (by first | exact Or.inl rfl | exact Or.inr rfl) (C8.pe_c C_ways_now hr (by decide) (by rfl) (pa_cons (pv 0) pa_nil)))
      (pss_cons (ps_set (i := 2) sc_best.nd rfl (by first | exact Or.inl rfl | exact Or.inr rfl) (C8.pe_c C_best_row hr (by decide) (by rfl) (pa_cons (pv 1) (pa_cons (pe_fld (pv 0) rfl) pa_nil))))
      (pss_one (ps_ret (pe_op op_cat (pe_lst (pa_cons (C8.pe_c C_count_kept hr (by decide) (by rfl) (pa_cons (pv 1) (pa_cons (pv 2) pa_nil))) pa_nil)) (pv 2))))))
theorem ok_greedy (T : Txt K mg L) (h : Has K mg "greedy" s_greedy ["session"]) (C_ways_now : C8.Cal P w K mg base 4 "ways_now" (sp_ways_now K L) []) (C_greatest_first : C8.Cal P w K mg base 5 "greatest_first" (sp_greatest_first K L) []) (C_count_kept : C8.Cal P w K mg base 1 "count_kept" (sp_count_kept K L) [])
    (len : ∀ vs H Q E, sp_greedy K L vs H Q E → vs.length = 1) (pure : ∀ vs H Q E, sp_greedy K L vs H Q E → t_greedy K L { nx := fun _ H' => Q .non H', rt := Q } (start N_greedy vs) H) :
    C8.Cal P w K mg base 6 "greedy" (sp_greedy K L) [] := by
  obtain ⟨f, fd, D, b⟩ := h.ex
  refine C8.cal0 (k := 5) D b .nil sc_greedy len (fun cdv A outer s H vs Q E hr h => ⟨t_greedy K L, ?_, pure vs H Q E h⟩)
  exact (pss_cons (ps_set (i := 1) sc_greedy.nd rfl (by first | exact Or.inl rfl | exact Or.inr rfl) (C8.pe_c C_ways_now hr (by decide) (by rfl) (pa_cons (pv 0) pa_nil)))
      (pss_cons (ps_set (i := 2) sc_greedy.nd rfl (by first | exact Or.inl rfl | exact Or.inr rfl) (C8.pe_c C_greatest_first hr (by decide) (by rfl) (pa_cons (pv 1) (pa_cons (pe_fld (pv 0) rfl) pa_nil))))
      (pss_one (ps_ret (pe_op op_cat (pe_lst (pa_cons (C8.pe_c C_count_kept hr (by decide) (by rfl) (pa_cons (pv 1) (pa_cons (pv 2) pa_nil))) pa_nil)) (pv 2))))))
theorem ok_run (T : Txt K mg L) (h : Has K mg "run" s_run ["session", "row"]) (C_are_in_range : C8.Cal P w K mg base 2 "are_in_range" (sp_are_in_range K L) []) (C_at_beginning : C8.Cal P w K mg base 3 "at_beginning" (sp_at_beginning K L) []) (C_turn : C8.Cal P w K mg base 3 "turn" (sp_turn K L) []) (C_save : C8.Cal P w K mg base 2 "save" (sp_save K L) []) (C_safe : C8.Cal P w K mg base 3 "safe" (sp_safe K L) [])
    (len : ∀ vs H Q E, sp_run K L vs H Q E → vs.length = 2) (pure : ∀ vs H Q E, sp_run K L vs H Q E → t_run K L { nx := fun _ H' => Q .non H', rt := Q } (start N_run vs) H) :
    C8.Cal P w K mg base 4 "run" (sp_run K L) [] := by
  obtain ⟨f, fd, D, b⟩ := h.ex
  refine C8.cal0 (k := 3) D b .nil sc_run len (fun cdv A outer s H vs Q E hr h => ⟨t_run K L, ?_, pure vs H Q E h⟩)
  exact (pss_cons (ps_if (pt_not (pt_val (C8.pe_c C_are_in_range hr (by decide) (by rfl) (pa_cons (pv 0) (pa_cons (pv 1) pa_nil))))) (pss_one (ps_ret (pe_lst (pa_cons (C8.pe_gc (by rfl) T.c_OUT_OF_RANGE) pa_nil)))) pss_nil)
      (pss_cons (ps_set (i := 2) sc_run.nd rfl (by first | exact Or.inl rfl | exact Or.inr rfl) (C8.pe_c C_at_beginning hr (by decide) (by rfl) (pa_cons (pv 0) pa_nil)))
      (pss_cons (ps_for PassesOwn.never rfl (pi_list (pv 1)) (pg_name (i := 3) sc_run.nd rfl (by first | exact Or.inl rfl | exact Or.inr rfl)) (pss_cons (ps_if (pt_cmpR op_eq (pe_fld (pv 2) rfl) (pe_fld (pv 2) rfl) (by rfl)) (pss_one (ps_expr (C8.pe_c C_turn hr (by decide) (by rfl) (pa_cons (pv 2) pa_nil)))) pss_nil)
      (pss_one (ps_if (pt_cmpR op_lt (pe_ix ix_list (C8.pe_c C_save hr (by decide) (by rfl) (pa_cons (pv 2) (pa_cons (pv 3) pa_nil))) pe_int (fun _ _ => rfl)) pe_int (by rfl)) (pss_one (ps_ret (pe_lst (pa_cons (C8.pe_gc (by rfl) T.c_IT_BURNS) pa_nil)))) pss_nil))))
      (pss_cons (ps_set (i := 4) sc_run.nd rfl (by first | exact Or.inl rfl | exact Or.inr rfl) (pe_ix ix_list (C8.pe_c C_safe hr (by decide) (by rfl) (pa_cons (pv 2) pa_nil)) pe_int (fun _ _ => rfl)))
      (pss_one (ps_ret (pe_lst (pa_cons (pv 4) (pa_cons (pe_op op_sub (pe_callB call_len_seq (by rfl) T.n_len PySem.boot_len (pa_cons (pe_fld (pv 0) rfl) pa_nil)) (pv 4)) pa_nil)))))))))
theorem ok_size (T : Txt K mg L) (h : Has K mg "size" s_size ["session", "p"]) (C_is_place : C8.Cal P w K mg base 1 "is_place" (sp_is_place K L) []) (C_ways_now : C8.Cal P w K mg base 4 "ways_now" (sp_ways_now K L) [])
    (len : ∀ vs H Q E, sp_size K L vs H Q E → vs.length = 2) (pure : ∀ vs H Q E, sp_size K L vs H Q E → t_size K L { nx := fun _ H' => Q .non H', rt := Q } (start N_size vs) H) :
    C8.Cal P w K mg base 5 "size" (sp_size K L) [] := by
  obtain ⟨f, fd, D, b⟩ := h.ex
  refine C8.cal0 (k := 4) D b .nil sc_size len (fun cdv A outer s H vs Q E hr h => ⟨t_size K L, ?_, pure vs H Q E h⟩)
  exact (pss_cons (ps_if (pt_not (pt_val (C8.pe_c C_is_place hr (by decide) (by rfl) (pa_cons (pv 0) (pa_cons (pv 1) pa_nil))))) (pss_one (ps_ret (pe_lst (pa_cons (C8.pe_gc (by rfl) T.c_NO_SUCH_PLACE) pa_nil)))) pss_nil)
      (pss_one (ps_ret (pe_lst (pa_cons (pe_ix ix_list (pe_fld (C8.pe_c C_ways_now hr (by decide) (by rfl) (pa_cons (pv 0) pa_nil)) rfl) (pv 1) (fun _ _ => rfl)) pa_nil)))))
theorem ok_deep (T : Txt K mg L) (h : Has K mg "deep" s_deep ["session", "p"]) (C_is_place : C8.Cal P w K mg base 1 "is_place" (sp_is_place K L) []) (C_ways_now : C8.Cal P w K mg base 4 "ways_now" (sp_ways_now K L) [])
    (len : ∀ vs H Q E, sp_deep K L vs H Q E → vs.length = 2) (pure : ∀ vs H Q E, sp_deep K L vs H Q E → t_deep K L { nx := fun _ H' => Q .non H', rt := Q } (start N_deep vs) H) :
    C8.Cal P w K mg base 5 "deep" (sp_deep K L) [] := by
  obtain ⟨f, fd, D, b⟩ := h.ex
  refine C8.cal0 (k := 4) D b .nil sc_deep len (fun cdv A outer s H vs Q E hr h => ⟨t_deep K L, ?_, pure vs H Q E h⟩)
  exact (pss_cons (ps_if (pt_not (pt_val (C8.pe_c C_is_place hr (by decide) (by rfl) (pa_cons (pv 0) (pa_cons (pv 1) pa_nil))))) (pss_one (ps_ret (pe_lst (pa_cons (C8.pe_gc (by rfl) T.c_NO_SUCH_PLACE) pa_nil)))) pss_nil)
      (pss_one (ps_ret (pe_lst (pa_cons (pe_ix ix_list (pe_fld (C8.pe_c C_ways_now hr (by decide) (by rfl) (pa_cons (pv 0) pa_nil)) rfl) (pv 1) (fun _ _ => rfl)) pa_nil)))))
theorem ok_level (T : Txt K mg L) (h : Has K mg "level" s_level ["session", "n"]) (C_ways_now : C8.Cal P w K mg base 4 "ways_now" (sp_ways_now K L) []) (C_counted : C8.Cal P w K mg base 1 "counted" (sp_counted K L) [])
    (len : ∀ vs H Q E, sp_level K L vs H Q E → vs.length = 2) (pure : ∀ vs H Q E, sp_level K L vs H Q E → t_level K L { nx := fun _ H' => Q .non H', rt := Q } (start N_level vs) H) :
    C8.Cal P w K mg base 5 "level" (sp_level K L) [] := by
  obtain ⟨f, fd, D, b⟩ := h.ex
  refine C8.cal0 (k := 4) D b .nil sc_level len (fun cdv A outer s H vs Q E hr h => ⟨t_level K L, ?_, pure vs H Q E h⟩)
  exact (pss_cons (ps_set (i := 2) sc_level.nd rfl (by first | exact Or.inl rfl | exact Or.inr rfl) (pe_fld (C8.pe_c C_ways_now hr (by decide) (by rfl) (pa_cons (pv 0) pa_nil)) rfl))
      (pss_one (ps_ret (C8.pe_c C_counted hr (by decide) (by rfl) (pa_cons (pe_lc (own := [("p", 3)]) (g := gName 3) (tt := (tTest (tOp rEq (tOp (rIxL K) (tVar 2) (tVar 3)) (tVar 1)))) (te := (tVar 3)) rfl sc_level.nd (pi_range1 (by rfl) T.n_range (pa_cons (pe_callB call_len_seq (by rfl) T.n_len PySem.boot_len (pa_cons (pv 2) pa_nil)) pa_nil)) (blkOk_by (N := N_level) (sc := (C8.fnScope s_level)) (by decide +kernel)) (fun _ _ _ _ _ => pg_name (i := 3) sc_level.nd rfl (Or.inl rfl)) (fun _ _ _ _ _ => (pts_one (pt_cmpR op_eq (pe_ix ix_list (pv 2) (pv 3) (fun _ _ => rfl)) (pv 1) (by rfl)))) (fun _ _ _ _ _ => (pv 3))) pa_nil)))))
theorem ok_kept (T : Txt K mg L) (h : Has K mg "kept" s_kept ["session", "places"]) (C_are_in_range : C8.Cal P w K mg base 2 "are_in_range" (sp_are_in_range K L) []) (C_count_beyond : C8.Cal P w K mg base 1 "count_beyond" (sp_count_beyond K L) []) (C_ways_now : C8.Cal P w K mg base 4 "ways_now" (sp_ways_now K L) [])
    (len : ∀ vs H Q E, sp_kept K L vs H Q E → vs.length = 2) (pure : ∀ vs H Q E, sp_kept K L vs H Q E → t_kept K L { nx := fun _ H' => Q .non H', rt := Q } (start N_kept vs) H) :
    C8.Cal P w K mg base 5 "kept" (sp_kept K L) [] := by
  obtain ⟨f, fd, D, b⟩ := h.ex
  refine C8.cal0 (k := 4) D b .nil sc_kept len (fun cdv A outer s H vs Q E hr h => ⟨t_kept K L, ?_, pure vs H Q E h⟩)
  exact (pss_cons (ps_if (pt_not (pt_val (C8.pe_c C_are_in_range hr (by decide) (by rfl) (pa_cons (pv 0) (pa_cons (pv 1) pa_nil))))) (pss_one (ps_ret (pe_lst (pa_cons (C8.pe_gc (by rfl) T.c_OUT_OF_RANGE) pa_nil)))) pss_nil)
      (pss_one (ps_ret (pe_lst (pa_cons (C8.pe_c C_count_beyond hr (by decide) (by rfl) (pa_cons (C8.pe_c C_ways_now hr (by decide) (by rfl) (pa_cons (pv 0) pa_nil)) (pa_cons (pv 1) pa_nil))) pa_nil)))))
theorem ok_worst (T : Txt K mg L) (h : Has K mg "worst" s_worst ["session"]) (C_most_by_origin : C8.Cal P w K mg base 31 "most_by_origin" (sp_most_by_origin K L) [])
    (len : ∀ vs H Q E, sp_worst K L vs H Q E → vs.length = 1) (pure : ∀ vs H Q E, sp_worst K L vs H Q E → t_worst K L { nx := fun _ H' => Q .non H', rt := Q } (start N_worst vs) H) :
    C8.Cal P w K mg base 32 "worst" (sp_worst K L) [] := by
  obtain ⟨f, fd, D, b⟩ := h.ex
  refine C8.cal0 (k := 31) D b .nil sc_worst len (fun cdv A outer s H vs Q E hr h => ⟨t_worst K L, ?_, pure vs H Q E h⟩)
  exact (pss_cons (ps_set (i := 1) sc_worst.nd rfl (by first | exact Or.inl rfl | exact Or.inr rfl) (C8.pe_c C_most_by_origin hr (by decide) (by rfl) (pa_cons (pv 0) pa_nil)))
      (pss_cons (ps_set (i := 2) sc_worst.nd rfl (by first | exact Or.inl rfl | exact Or.inr rfl) (pe_callB (cr_min rfl) (by rfl) T.n_min (by decide +kernel) (pa_cons (pv 1) pa_nil)))
      (pss_one (ps_ret (pe_op op_cat (pe_lst (pa_cons (pv 2) pa_nil)) (pe_lc (own := [("p", 3)]) (g := gName 3) (tt := (tTest (tOp rEq (tOp (rIxL K) (tVar 1) (tVar 3)) (tVar 2)))) (te := (tVar 3)) rfl sc_worst.nd (pi_range1 (by rfl) T.n_range (pa_cons (pe_callB call_len_seq (by rfl) T.n_len PySem.boot_len (pa_cons (pv 1) pa_nil)) pa_nil)) (blkOk_by (N := N_worst) (sc := (C8.fnScope s_worst)) (by decide +kernel)) (fun _ _ _ _ _ => pg_name (i := 3) sc_worst.nd rfl (Or.inl rfl)) (fun _ _ _ _ _ => (pts_one (pt_cmpR op_eq (pe_ix ix_list (pv 1) (pv 3) (fun _ _ => rfl)) (pv 2) (by rfl)))) (fun _ _ _ _ _ => (pv 3))))))))
theorem ok_from_all (T : Txt K mg L) (h : Has K mg "from_all" s_from_all ["session"]) (C_counted : C8.Cal P w K mg base 1 "counted" (sp_counted K L) []) (C_most_by_origin : C8.Cal P w K mg base 31 "most_by_origin" (sp_most_by_origin K L) [])
    (len : ∀ vs H Q E, sp_from_all K L vs H Q E → vs.length = 1) (pure : ∀ vs H Q E, sp_from_all K L vs H Q E → t_from_all K L { nx := fun _ H' => Q .non H', rt := Q } (start N_from_all vs) H) :
    C8.Cal P w K mg base 32 "from_all" (sp_from_all K L) [] := by
  obtain ⟨f, fd, D, b⟩ := h.ex
  refine C8.cal0 (k := 31) D b .nil sc_from_all len (fun cdv A outer s H vs Q E hr h => ⟨t_from_all K L, ?_, pure vs H Q E h⟩)
  exact (pss_one (ps_ret (C8.pe_c C_counted hr (by decide) (by rfl) (pa_cons (C8.pe_c C_most_by_origin hr (by decide) (by rfl) (pa_cons (pv 0) pa_nil)) pa_nil))))
theorem ok_mores (T : Txt K mg L) (h : Has K mg "mores" s_mores ["session"]) (C_counted : C8.Cal P w K mg base 1 "counted" (sp_counted K L) []) (C_most_kept : C8.Cal P w K mg base 30 "most_kept" (sp_most_kept K L) [])
    (len : ∀ vs H Q E, sp_mores K L vs H Q E → vs.length = 1) (pure : ∀ vs H Q E, sp_mores K L vs H Q E → t_mores K L { nx := fun _ H' => Q .non H', rt := Q } (start N_mores vs) H) :
    C8.Cal P w K mg base 31 "mores" (sp_mores K L) [] := by
  obtain ⟨f, fd, D, b⟩ := h.ex
  refine C8.cal0 (k := 30) D b .nil sc_mores len (fun cdv A outer s H vs Q E hr h => ⟨t_mores K L, ?_, pure vs H Q E h⟩)
  exact (pss_one (ps_ret (C8.pe_c C_counted hr (by decide) (by rfl) (pa_cons (pe_lc (own := [("each", 1)]) (g := gName 1) (tt := tYes) (te := (tCall (sp_most_kept K L) [] C8.E0 (tCons (tVar 0) (tCons (tFld K (tVar 0) "origin") (tCons (tVar 1) tNil))))) rfl sc_mores.nd (pi_tup (pe_tup (pa_cons pe_int (pa_cons pe_int pa_nil)))) (blkOk_by (N := N_mores) (sc := (C8.fnScope s_mores)) (by decide +kernel)) (fun _ _ _ _ _ => pg_name (i := 1) sc_mores.nd rfl (Or.inl rfl)) (fun _ _ _ _ _ => pts_nil) (fun _ _ _ _ _ => (C8.pe_c C_most_kept hr (by decide) (by rfl) (pa_cons (pv 0) (pa_cons (pe_fld (pv 0) rfl) (pa_cons (pv 1) pa_nil)))))) pa_nil))))
theorem ok_end_of_call (T : Txt K mg L) (h : Has K mg "end_of_call" s_end_of_call ["calls", "at"]) 
    (len : ∀ vs H Q E, sp_end_of_call K L vs H Q E → vs.length = 2) (pure : ∀ vs H Q E, sp_end_of_call K L vs H Q E → t_end_of_call K L { nx := fun _ H' => Q .non H', rt := Q } (start N_end_of_call vs) H) :
    C8.Cal P w K mg base 1 "end_of_call" (sp_end_of_call K L) [] := by
  obtain ⟨f, fd, D, b⟩ := h.ex
  refine C8.cal0 (k := 0) D b .nil sc_end_of_call len (fun cdv A outer s H vs Q E hr h => ⟨t_end_of_call K L, ?_, pure vs H Q E h⟩)
  exact (pss_cons (ps_if (PW.pt (pw_or (pt_cmpR (op_in_kdi (T.d_NUMBER_CALLS _ _)) (pe_ix ix_list (pv 0) (pv 1) (fun _ _ => rfl)) (C8.pe_gc (by rfl) T.c_NUMBER_CALLS) (by rfl)) (pw_or1 (pt_cmpR (op_in_kdi (T.d_NUMBER_QUESTIONS _ _)) (pe_ix ix_list (pv 0) (pv 1) (fun _ _ => rfl)) (C8.pe_gc (by rfl) T.c_NUMBER_QUESTIONS) (by rfl))))) (pss_one (ps_ret (pe_op op_add (pv 1) pe_int))) pss_nil)
      (pss_cons (ps_if (pt_cmpR (op_in_kdi (T.d_ROW_QUESTIONS _ _)) (pe_ix ix_list (pv 0) (pv 1) (fun _ _ => rfl)) (C8.pe_gc (by rfl) T.c_ROW_QUESTIONS) (by rfl)) (pss_one (ps_ret (pe_op op_add (pe_op op_add (pv 1) pe_int) (pe_ix ix_list (pv 0) (pe_op op_add (pv 1) pe_int) (fun _ _ => rfl))))) pss_nil)
      (pss_one (ps_ret (pe_op op_add (pv 1) pe_int)))))
theorem ok_answer_of (T : Txt K mg L) (h : Has K mg "answer_of" s_answer_of ["session", "call", "given"]) (A_PLAIN_CALLS : ∀ f sp, S_PLAIN_CALLS K L f sp → Held P w K mg base 3 f sp) (A_NUMBER_CALLS : ∀ f sp, S_NUMBER_CALLS K L f sp → Held P w K mg base 2 f sp) (A_PLAIN_QUESTIONS : ∀ f sp, S_PLAIN_QUESTIONS K L f sp → Held P w K mg base 32 f sp) (A_NUMBER_QUESTIONS : ∀ f sp, S_NUMBER_QUESTIONS K L f sp → Held P w K mg base 5 f sp) (A_ROW_QUESTIONS : ∀ f sp, S_ROW_QUESTIONS K L f sp → Held P w K mg base 5 f sp)
    (len : ∀ vs H Q E, sp_answer_of K L vs H Q E → vs.length = 3) (pure : ∀ vs H Q E, sp_answer_of K L vs H Q E → t_answer_of K L { nx := fun _ H' => Q .non H', rt := Q } (start N_answer_of vs) H) :
    C8.Cal P w K mg base 33 "answer_of" (sp_answer_of K L) [] := by
  obtain ⟨f, fd, D, b⟩ := h.ex
  refine C8.cal0 (k := 32) D b .nil sc_answer_of len (fun cdv A outer s H vs Q E hr h => ⟨t_answer_of K L, ?_, pure vs H Q E h⟩)
  exact (pss_cons (ps_if (PW.pt (pw_and (pt_cmpR op_ne (pv 1) (C8.pe_gc (by rfl) T.c_BEGIN) (by rfl)) (pw_and1 (pt_cmpR op_eq (pe_callB call_len_seq (by rfl) T.n_len PySem.boot_len (pa_cons (pe_fld (pv 0) rfl) pa_nil)) pe_int (by rfl))))) (pss_one (ps_ret (pe_lst (pa_cons (C8.pe_gc (by rfl) T.c_NOT_BEGUN) pa_nil)))) pss_nil)
      (pss_cons (ps_if (pt_cmpR (op_in_kdi (T.d_PLAIN_CALLS _ _)) (pv 1) (C8.pe_gc (by rfl) T.c_PLAIN_CALLS) (by rfl)) (pss_one (ps_ret (pe_callE A_PLAIN_CALLS (hr.mono (by decide)) (pe_ix (ix_kdi (T.d_PLAIN_CALLS _ _)) (C8.pe_gc (by rfl) T.c_PLAIN_CALLS) (pv 1) (fun _ _ => rfl)) (pa_cons (pv 0) pa_nil)))) pss_nil)
      (pss_cons (ps_if (pt_cmpR (op_in_kdi (T.d_NUMBER_CALLS _ _)) (pv 1) (C8.pe_gc (by rfl) T.c_NUMBER_CALLS) (by rfl)) (pss_one (ps_ret (pe_callE A_NUMBER_CALLS (hr.mono (by decide)) (pe_ix (ix_kdi (T.d_NUMBER_CALLS _ _)) (C8.pe_gc (by rfl) T.c_NUMBER_CALLS) (pv 1) (fun _ _ => rfl)) (pa_cons (pv 0) (pa_cons (pe_ix ix_list (pv 2) pe_int (fun _ _ => rfl)) pa_nil))))) pss_nil)
      (pss_cons (ps_if (pt_cmpR (op_in_kdi (T.d_PLAIN_QUESTIONS _ _)) (pv 1) (C8.pe_gc (by rfl) T.c_PLAIN_QUESTIONS) (by rfl)) (pss_one (ps_ret (pe_callE A_PLAIN_QUESTIONS (hr.mono (by decide)) (pe_ix (ix_kdi (T.d_PLAIN_QUESTIONS _ _)) (C8.pe_gc (by rfl) T.c_PLAIN_QUESTIONS) (pv 1) (fun _ _ => rfl)) (pa_cons (pv 0) pa_nil)))) pss_nil)
      (pss_cons (ps_if (pt_cmpR (op_in_kdi (T.d_NUMBER_QUESTIONS _ _)) (pv 1) (C8.pe_gc (by rfl) T.c_NUMBER_QUESTIONS) (by rfl)) (pss_one (ps_ret (pe_callE A_NUMBER_QUESTIONS (hr.mono (by decide)) (pe_ix (ix_kdi (T.d_NUMBER_QUESTIONS _ _)) (C8.pe_gc (by rfl) T.c_NUMBER_QUESTIONS) (pv 1) (fun _ _ => rfl)) (pa_cons (pv 0) (pa_cons (pe_ix ix_list (pv 2) pe_int (fun _ _ => rfl)) pa_nil))))) pss_nil)
      (pss_one (ps_ret (pe_callE A_ROW_QUESTIONS (hr.mono (by decide)) (pe_ix (ix_kdi (T.d_ROW_QUESTIONS _ _)) (C8.pe_gc (by rfl) T.c_ROW_QUESTIONS) (pv 1) (fun _ _ => rfl)) (pa_cons (pv 0) (pa_cons (pe_slice sl_list (pv 2) (po_some pe_int) po_none) pa_nil))))))))))
theorem ok_answers (T : Txt K mg L) (h : Has K mg "answers" s_answers ["calls"]) (C_Session : C8.Mak P w K mg base 1 "Session" L.C_Session (sp_Session_init K L) []) (C_end_of_call : C8.Cal P w K mg base 1 "end_of_call" (sp_end_of_call K L) []) (C_answer_of : C8.Cal P w K mg base 33 "answer_of" (sp_answer_of K L) [])
    (len : ∀ vs H Q E, sp_answers K L vs H Q E → vs.length = 1) (pure : ∀ vs H Q E, sp_answers K L vs H Q E → t_answers K L { nx := fun _ H' => Q .non H', rt := Q } (start N_answers vs) H) :
    C8.Cal P w K mg base 34 "answers" (sp_answers K L) [] := by
  obtain ⟨f, fd, D, b⟩ := h.ex
  refine C8.cal0 (k := 33) D b .nil sc_answers len (fun cdv A outer s H vs Q E hr h => ⟨t_answers K L, ?_, pure vs H Q E h⟩)
  exact (pss_cons (ps_set (i := 1) sc_answers.nd rfl (by first | exact Or.inl rfl | exact Or.inr rfl) (pe_mk0 C_Session hr (by decide) (by rfl)))
      (pss_cons (ps_set (i := 2) sc_answers.nd rfl (by first | exact Or.inl rfl | exact Or.inr rfl) (pe_lst pa_nil))
      (pss_cons (ps_set (i := 3) sc_answers.nd rfl (by first | exact Or.inl rfl | exact Or.inr rfl) pe_int)
      (pss_cons (ps_while PassesOwn.never (pt_cmpR op_lt (pv 3) (pe_callB call_len_seq (by rfl) T.n_len PySem.boot_len (pa_cons (pv 0) pa_nil)) (by rfl)) (pss_cons (ps_set (i := 4) sc_answers.nd rfl (by first | exact Or.inl rfl | exact Or.inr rfl) (C8.pe_c C_end_of_call hr (by decide) (by rfl) (pa_cons (pv 0) (pa_cons (pv 3) pa_nil))))
      (pss_cons (ps_set (i := 5) sc_answers.nd rfl (by first | exact Or.inl rfl | exact Or.inr rfl) (C8.pe_c C_answer_of hr (by decide) (by rfl) (pa_cons (pv 1) (pa_cons (pe_ix ix_list (pv 0) (pv 3) (fun _ _ => rfl)) (pa_cons (pe_slice sl_list (pv 0) (po_some (pe_op op_add (pv 3) pe_int)) (po_some (pv 4))) pa_nil)))))
      (pss_cons (ps_expr (pe_bm PySem.F.plainAttrs_list PySem.F.slot_list_append PySem.F.type_list_append mt_append (pv 2) (pa_cons (pe_callB call_len_seq (by rfl) T.n_len PySem.boot_len (pa_cons (pv 5) pa_nil)) pa_nil)))
      (pss_cons (ps_expr (pe_bm PySem.F.plainAttrs_list PySem.F.slot_list_extend PySem.F.type_list_extend mt_extend (pv 2) (pa_cons (pv 5) pa_nil)))
      (pss_one (ps_set (i := 3) sc_answers.nd rfl (by first | exact Or.inl rfl | exact Or.inr rfl) (pv 4))))))))
      (pss_one (ps_ret (pv 2)))))))
-- the row's def by its address
theorem fn_answers {f : Addr} {fd : FuncData} (T : Txt K mg L) (D : C8.Def K mg "answers" s_answers f fd) (C_Session : C8.Mak P w K mg base 1 "Session" L.C_Session (sp_Session_init K L) []) (C_end_of_call : C8.Cal P w K mg base 1 "end_of_call" (sp_end_of_call K L) []) (C_answer_of : C8.Cal P w K mg base 33 "answer_of" (sp_answer_of K L) [])
    (len : ∀ vs H Q E, sp_answers K L vs H Q E → vs.length = 1) (pure : ∀ vs H Q E, sp_answers K L vs H Q E → t_answers K L { nx := fun _ H' => Q .non H', rt := Q } (start N_answers vs) H) :
    FnOk P w K mg base C8.CX0 34 f fd ["calls"] (sp_answers K L) := by
  refine C8.fn0 (k := 33) D.fn sc_answers len (fun cdv A outer s H vs Q E hr h => ⟨t_answers K L, ?_, pure vs H Q E h⟩)
  exact (pss_cons (ps_set (i := 1) sc_answers.nd rfl (by first | exact Or.inl rfl | exact Or.inr rfl) (pe_mk0 C_Session hr (by decide) (by rfl)))
      (pss_cons (ps_set (i := 2) sc_answers.nd rfl (by first | exact Or.inl rfl | exact Or.inr rfl) (pe_lst pa_nil))
      (pss_cons (ps_set (i := 3) sc_answers.nd rfl (by first | exact Or.inl rfl | exact Or.inr rfl) pe_int)
      (pss_cons (ps_while PassesOwn.never (pt_cmpR op_lt (pv 3) (pe_callB call_len_seq (by rfl) T.n_len PySem.boot_len (pa_cons (pv 0) pa_nil)) (by rfl)) (pss_cons (ps_set (i := 4) sc_answers.nd rfl (by first | exact Or.inl rfl | exact Or.inr rfl) (C8.pe_c C_end_of_call hr (by decide) (by rfl) (pa_cons (pv 0) (pa_cons (pv 3) pa_nil))))
      (pss_cons (ps_set (i := 5) sc_answers.nd rfl (by first | exact Or.inl rfl | exact Or.inr rfl) (C8.pe_c C_answer_of hr (by decide) (by rfl) (pa_cons (pv 1) (pa_cons (pe_ix ix_list (pv 0) (pv 3) (fun _ _ => rfl)) (pa_cons (pe_slice sl_list (pv 0) (po_some (pe_op op_add (pv 3) pe_int)) (po_some (pv 4))) pa_nil)))))
      (pss_cons (ps_expr (pe_bm PySem.F.plainAttrs_list PySem.F.slot_list_append PySem.F.type_list_append mt_append (pv 2) (pa_cons (pe_callB call_len_seq (by rfl) T.n_len PySem.boot_len (pa_cons (pv 5) pa_nil)) pa_nil)))
      (pss_cons (ps_expr (pe_bm PySem.F.plainAttrs_list PySem.F.slot_list_extend PySem.F.type_list_extend mt_extend (pv 2) (pa_cons (pv 5) pa_nil)))
      (pss_one (ps_set (i := 3) sc_answers.nd rfl (by first | exact Or.inl rfl | exact Or.inr rfl) (pv 4))))))))
      (pss_one (ps_ret (pv 2)))))))
end
end FS

set_option maxRecDepth 100000
set_option maxHeartbeats 4000000
namespace FS
open PySem PySem.Spec PyProof.Rows L2 Evl
open Su121 (Abs)
/-! ### the fire goes on: the program's test is the specification's -/
theorem near_any {x : Abs} (o : Ok x) {p : Nat} (hp : p < x.n) {bs : List Nat} (hb : ∀ q ∈ bs, q < x.n) :
    (x.tree.near p).any (fun q => bs.contains q) = bs.any fun q => decide (q < p ∧ pa x.tree.up p = q) || decide (p < q ∧ pa x.tree.up q = p) := by
  rw [Bool.eq_iff_iff, List.any_eq_true, List.any_eq_true]
  constructor
  · rintro ⟨q, h1, h2⟩
    obtain ⟨hq, ad⟩ := (near_iff o.wf hp).mp h1
    refine ⟨q, by simpa using h2, ?_⟩
    rw [Bool.or_eq_true, decide_eq_true_eq, decide_eq_true_eq]
    exact ad.symm
  · rintro ⟨q, h1, h2⟩
    rw [Bool.or_eq_true, decide_eq_true_eq, decide_eq_true_eq] at h2
    exact ⟨q, (near_iff o.wf hp).mpr ⟨hb q h1, h2.symm⟩, by simpa using h1⟩
section
variable {K : PySem.W.Frag} {mg : Str → Option Value} {L : Locs}
/-- a body's ends -/
abbrev En (Q : VK) : Ends := { nx := fun _ H' => Q .non H', rt := Q }
theorem el_is {te : TE} {σ : L2.St} {H : Hp} {xs ys : List V} (h : EvL te σ H xs) (e : xs = ys) : EvL te σ H ys := e ▸ h
theorem atI_of {xs : List V} {p : Nat} {v : V} (h : xs[p]? = some v) : atI xs ((p : Nat) : Int) = some v := atI_nat h
theorem pure_is_place (T : Txt K mg L) (vs : List V) (H : Hp) (Q : VK) (E : XK) (h : sp_is_place K L vs H Q E) : t_is_place K L (En Q) (start N_is_place vs) H := by
  obtain ⟨a, A, d, p, rfl, hs, k⟩ := h
  exact s_ret (ev_op (ev_var rfl) (ev_len (ev_joined T hs (ev_var rfl)) (sq_of hs.jl)) rv_I0) k
theorem pure_is_under_way (T : Txt K mg L) (vs : List V) (H : Hp) (Q : VK) (E : XK) (h : sp_is_under_way K L vs H Q E) : t_is_under_way K L (En Q) (start N_is_under_way vs) H := by
  obtain ⟨a, A, d, rfl, hs, k⟩ := h
  refine s_ret (ev_is (ev_orV' (ev_op (ev_len (ev_burning T hs (ev_var rfl)) (sq_of hs.bl)) ev_c rv_I0) (ev_op (ev_len (ev_saved T hs (ev_var rfl)) (sq_of hs.sl)) ev_c rv_I0)) ?_) k
  rw [List.length_map, List.length_map]
  congr 2
  · exact decide_eq_decide.mpr (by omega)
  · exact decide_eq_decide.mpr (by omega)
theorem pure_counted (T : Txt K mg L) (vs : List V) (H : Hp) (Q : VK) (E : XK) (h : sp_counted K L vs H Q E) : t_counted K L (En Q) (start N_counted vs) H := by
  obtain ⟨a, ns, rfl, ha, hn, k⟩ := h
  have e := el_cat (σ := start N_counted [.ref a]) (el_lst (ea_cons (ev_len (K := K) (ta := tVar 0) (ev_var rfl) (sq_of ha)) ea_nil) (by show 1 ≤ 100000; decide)) (tb := tVar 0) (fun H1 e => ev_var rfl) ha (by rw [List.length_map]; show 1 + ns.length ≤ 100000; omega)
  rw [List.length_map] at e
  exact s_retL e k
theorem pure_catches (T : Txt K mg L) (vs : List V) (H : Hp) (Q : VK) (E : XK) (h : sp_catches K L vs H Q E) : t_catches K L (En Q) (start N_catches vs) H := by
  obtain ⟨a, A, x, p, ab, bs, rfl, hs, o, hp, hb, hbn, hbl, k⟩ := h
  refine q_if (et_test (ev_inL (ev_var rfl) (ev_saved T hs (ev_var rfl)) (sq_of hs.sl) rfl (flat_ints _))) (fun c H1 e1 => ?_) (fun c H1 e1 => ?_)
  · rw [show (dat x).saved = I x.saved from rfl, inV_I] at c
    refine s_ret ev_c fun H2 e2 => ?_
    have g := k H2 (e1.trans e2)
    unfold catchB at g
    rw [c] at g
    exact g
  · rw [show (dat x).saved = I x.saved from rfl, inV_I] at c
    have hs1 := hs.mono e1
    have hp' : p < x.tree.up.length + 1 := hp
    refine s_ret (v := .bl (catchB x p bs)) (ev_is (ev_any (bs := bs.map fun q => decide (q < p ∧ pa x.tree.up p = q) || decide (p < q ∧ pa x.tree.up q = p)) (el_is (el_lcMap (ns := I bs) (fun z => .bl (decide (z.toNat < p ∧ pa x.tree.up p = z.toNat) || decide (p < z.toNat ∧ pa x.tree.up z.toNat = p)))
      (ev_var rfl) (sq_of (e1 _ _ hb)) (by rw [I_len]; omega) (fun _ => rfl) fun z H2 hz e2 => ?_) ?_)) ?_) fun H2 e2 => ?_
    · obtain ⟨q, hq, rfl⟩ := of_I hz
      have hq' : q < x.tree.up.length + 1 := hbn q hq
      have hs2 := hs1.mono e2
      refine ev_orV' (ev_is (ev_op (ev_op (ev_joined T hs2 (ev_var rfl)) (ev_var rfl) (rv_ixL (sq_of hs2.jl) (atI_of (joined_at hp')))) (ev_var rfl) (rv_eq ?_)) (congrArg V.bl (joined_eq o.wf hp')))
        (ev_is (ev_op (ev_op (ev_joined T hs2 (ev_var rfl)) (ev_var rfl) (rv_ixL (sq_of hs2.jl) (atI_of (joined_at hq')))) (ev_var rfl) (rv_eq ?_)) (congrArg V.bl (joined_eq o.wf hq')))
      · split <;> rfl
      · split <;> rfl
    · rw [List.map_map]
      unfold I
      rw [List.map_map]
      rfl
    · unfold catchB
      rw [c, near_any o hp hbn, List.any_map]
      rfl
    · exact k H2 (e1.trans e2)
theorem pure_gone_on (T : Txt K mg L) (vs : List V) (H : Hp) (Q : VK) (E : XK) (h : sp_gone_on K L vs H Q E) : t_gone_on K L (En Q) (start N_gone_on vs) H := by
  obtain ⟨a, A, x, ab, bs, rfl, hs, o, hb, hbn, hbl, k⟩ := h
  refine s_retL (el_is (el_lcR1 (fun p => bs.contains p || catchB x p bs) (fun p => .int (p : Int)) (ea_cons (ev_len (ev_joined T hs (ev_var rfl)) (sq_of hs.jl)) ea_nil) ?_ (fun _ => rfl) (fun p H1 e1 hp => ?_) (fun p H1 e1 hp _ => ev_var rfl)) ?_) k
  · have := o.n12
    rw [dat_len]
    omega
  · rw [dat_len] at hp
    have hp' : p < x.n := by omega
    have hs1 := hs.mono e1
    refine et_or (et_test (ev_is (ev_inL (ev_var rfl) (ev_var rfl) (sq_of (e1 _ _ hb)) rfl (flat_ints _)) (congrArg V.bl (inV_I p bs)))) fun _ => et_B (ev_call (ea_cons (ev_var rfl) (ea_cons (ev_var rfl) (ea_cons (ev_var rfl) ea_nil))) ?_)
    intro H2 e2 Q' q' E'
    exact ⟨a, A, x, p, ab, bs, rfl, hs1.mono e2, o, hp', e2 _ _ (e1 _ _ hb), hbn, hbl, q'⟩
  · rw [dat_len, show ((x.n : Nat) : Int).toNat = x.n from rfl]
    unfold given goneOn I
    rw [List.map_map]
    rfl
end
end FS

set_option maxRecDepth 100000
set_option maxHeartbeats 4000000
namespace FS
open PySem PySem.Spec PyProof.Rows L2 Evl
open Su121 (Abs)
section
variable {K : PySem.W.Frag} {mg : Str → Option Value} {L : Locs} {σ : L2.St} {H H1 : Hp} {ta te : TE} {ts : TA} {tz : TS} {D : Ends} {C a : Addr} {A A1 : Adr} {d d1 : Dat} {Q : VK} {E : XK} {sp : Sp} {dvs vs : List V}
/-- a def called for what it does -/
theorem q_do (h : EvA ts σ H vs) (k : ∀ H1, Ex H H1 → sp (vs ++ dvs) H1 (fun _ H2 => tz D σ H2) E) : tSeq (tDrop (tCall sp dvs E ts)) tz D σ H := h H (Ex.refl H) _ k
/-- behind what was done: a new list is handed back -/
theorem ret_stp {ans : List Int} (st : Stp L a A H A1 d1 H1) (k : RetC L a A H d1 ans Q) (h : EvL te σ H1 (ans.map V.int)) : tRet te (En Q) σ H1 :=
  s_retL h fun p H2 hp e h2 => k p A1 H2 (st.grow _ (nw_of hp)) h2 (st.ex e)
theorem ret_one {z : Int} (st : Stp L a A H A1 d1 H1) (k : RetC L a A H d1 [z] Q) (h : Ev te σ H1 (.int z)) : tRet (tLst (tCons te tNil)) (En Q) σ H1 :=
  ret_stp st k (el_lst (ea_cons h ea_nil) (by show 1 ≤ 100000; decide))
theorem ret_two {tb : TE} {y z : Int} (st : Stp L a A H A1 d1 H1) (k : RetC L a A H d1 [y, z] Q) (h : Ev te σ H1 (.int y)) (h2 : Ev tb σ H1 (.int z)) : tRet (tLst (tCons te (tCons tb tNil))) (En Q) σ H1 :=
  ret_stp st k (el_lst (ea_cons h (ea_cons h2 ea_nil)) (by show 2 ≤ 100000; decide))
/-- the same, within other ends (behind an if) -/
theorem ret_ref {z : Int} {nx : L2.St → Hp → Prop} (st : Stp L a A H A1 d1 H1) (k : RetC L a A H d1 [z] Q) (h : Ev te σ H1 (.int z)) : tRet (tLst (tCons te tNil)) { nx := nx, rt := Q } σ H1 :=
  s_retL (D := { nx := nx, rt := Q }) (el_lst (ea_cons h ea_nil) (by show 1 ≤ 100000; decide)) fun p H2 hp e h2 => k p A1 H2 (st.grow _ (nw_of hp)) h2 (st.ex e)
theorem RetC.cast {d' : Dat} {ans ans' : List Int} (k : RetC L a A H d ans Q) (e1 : d = d') (e2 : ans = ans') : RetC L a A H d' ans' Q := e1 ▸ e2 ▸ k
/-! ### the session made, put back, begun -/
theorem fs_new {j b s dx : Addr} : putF "saved" (.ref s) (putF "burning" (.ref b) (putF "used" (.int 0) (putF "each" (.int 1) (putF "origin" (.int 0) (putF "joined" (.ref j) []))))) = dat0.fs ⟨dx, j, b, s⟩ := by
  rfl
theorem pure_Session_init (T : Txt K mg L) (vs : List V) (H : Hp) (Q : VK) (E : XK) (h : sp_Session_init K L vs H Q E) : t_Session_init K L (En Q) (start N_Session_init vs) H := by
  obtain ⟨p, dx, rfl, hp, hd, k⟩ := h
  have c := T.cl_Session
  refine q_fldL (el_lst ea_nil (by decide)) (ev_var rfl) hp c T.a_Session_joined (by show 0 < 1000; decide) fun aj H1 nj e1 hj => ?_
  have pj : aj ≠ p := fun z => by rw [z, hp] at nj; cases nj
  refine q_fld ev_c (ev_var rfl) upd_same c T.a_Session_origin (by show 1 < 1000; decide) fun H2 e2 => ?_
  have h2 : H2 p = _ := e2 _ _ upd_same
  refine q_fld ev_c (ev_var rfl) upd_same c T.a_Session_each (by show 2 < 1000; decide) fun H3 e3 => ?_
  refine q_fld ev_c (ev_var rfl) upd_same c T.a_Session_used (by show 3 < 1000; decide) fun H4 e4 => ?_
  refine q_fldL (el_lst ea_nil (by decide)) (ev_var rfl) upd_same c T.a_Session_burning (by show 4 < 1000; decide) fun ab H5 nb e5 hb => ?_
  refine s_fldL (el_lst ea_nil (by decide)) (ev_var rfl) upd_same c T.a_Session_saved (by show 5 < 1000; decide) fun as H6 ns e6 hs => ?_
  have gs : H as = none := fresh_back e1 (NdefX.upd_none (fresh_back e2 (NdefX.upd_none (fresh_back e3 (NdefX.upd_none (fresh_back e4 (NdefX.upd_none (fresh_back e5 (NdefX.upd_none ns)))))))))
  have gb : H ab = none := fresh_back e1 (NdefX.upd_none (fresh_back e2 (NdefX.upd_none (fresh_back e3 (NdefX.upd_none (fresh_back e4 (NdefX.upd_none nb)))))))
  have keep : ∀ b o, H b = some o → b ≠ p → H6 b = some o := fun b o h n => e6 _ _ ((upd_ne n).trans (e5 _ _ ((upd_ne n).trans (e4 _ _ ((upd_ne n).trans (e3 _ _ ((upd_ne n).trans (e2 _ _ ((upd_ne n).trans (e1 _ _ h))))))))))
  have j6 : H6 aj = some (.lst []) := e6 _ _ ((upd_ne pj).trans (e5 _ _ ((upd_ne pj).trans (e4 _ _ ((upd_ne pj).trans (e3 _ _ ((upd_ne pj).trans (e2 _ _ ((upd_ne pj).trans hj)))))))))
  have j4 : H4 aj = some (.lst []) := e4 _ _ ((upd_ne pj).trans (e3 _ _ ((upd_ne pj).trans (e2 _ _ ((upd_ne pj).trans hj)))))
  have pb : ab ≠ p := fun z => by rw [z, upd_same] at nb; cases nb
  have ps : as ≠ p := fun z => by rw [z, upd_same] at ns; cases ns
  have b6 : H6 ab = some (.lst []) := e6 _ _ ((upd_ne pb).trans hb)
  have jb : aj ≠ ab := fun z => by rw [← z, upd_ne pj, j4] at nb; cases nb
  have js : aj ≠ as := fun z => by rw [← z, upd_ne pj, e5 _ _ ((upd_ne pj).trans j4)] at ns; cases ns
  have bs : ab ≠ as := fun z => by rw [← z, upd_ne pb, hb] at ns; cases ns
  rw [fs_new (dx := dx)]
  exact k _ ⟨dx, aj, ab, as⟩ ⟨upd_same, (upd_ne pj).trans j6, (upd_ne pb).trans b6, (upd_ne ps).trans hs, js, jb, bs⟩ (fun b o h n => (upd_ne n).trans (keep b o h n)) nj gb gs
theorem pure_put_fire_back (T : Txt K mg L) (vs : List V) (H : Hp) (Q : VK) (E : XK) (h : sp_put_fire_back K L vs H Q E) : t_put_fire_back K L (En Q) (start N_put_fire_back vs) H := by
  obtain ⟨a, A, d, rfl, hs, k⟩ := h
  refine q_fldL (xs := [V.int d.origin]) (el_lst (ea_cons (ev_origin T hs (ev_var rfl)) ea_nil) (by show 1 ≤ 100000; decide)) (ev_var rfl) hs.ins T.cl_Session T.a_Session_burning fs_len fun p H1 hp e1 h1 => ?_
  have n1 : p ≠ A.as := fun z => by rw [z, hs.sl] at hp; cases hp
  have n2 : p ≠ A.aj := fun z => by rw [z, hs.jl] at hp; cases hp
  have s1 := (hs.mono e1).setBurning (ns := [d.origin]) h1 n1 n2
  have t1 : Stp L a A H _ _ _ := Stp.setX hs e1 s1 (.inl rfl) (.inr (nw_of hp)) (.inl rfl)
  refine q_fldL (el_lst ea_nil (by decide)) (ev_var rfl) s1.ins T.cl_Session T.a_Session_saved fs_len fun p2 H2 hp2 e2 h2 => ?_
  have m1 : p2 ≠ p := fun z => by rw [z, s1.bl] at hp2; cases hp2
  have m2 : p2 ≠ A.aj := fun z => by rw [z, s1.jl] at hp2; cases hp2
  have s2 := (s1.mono e2).setSaved (ns := []) h2 m1 m2
  have t2 := Stp.trans t1 (Stp.setX s1 e2 s2 (.inl rfl) (.inl rfl) (.inr (nw_of hp2))) hs
  refine s_fld ev_c (ev_var rfl) s2.ins T.cl_Session T.a_Session_used fs_len fun H3 e3 => ?_
  have s3 := (s2.mono e3).setUsed 0
  exact k _ _ (Stp.trans t2 (Stp.setX s2 e3 s3 (.inl rfl) (.inl rfl) (.inl rfl)) hs)
end
end FS

set_option maxRecDepth 100000
set_option maxHeartbeats 4000000
namespace FS
open PySem PySem.Spec PyProof.Rows L2 Evl
open Su121 (Abs)
section
variable {K : PySem.W.Frag} {mg : Str → Option Value} {L : Locs} {σ : L2.St} {H H1 : Hp} {ta te tb : TE} {ts : TA} {tz : TS} {D : Ends} {C a : Addr} {A A1 : Adr} {d d1 : Dat} {Q : VK} {E : XK} {sp : Sp} {dvs vs : List V}
theorem spv_is_place {p : Int} (hs : SesAt L.C_Session H a A d) : SpV (sp_is_place K L) [.ref a, .int p] H (.bl (decide (p < (d.joined.length : Int)))) := fun H1 e Q q E => ⟨a, A, d, p, rfl, hs.mono e, q⟩
theorem spv_is_under_way (hs : SesAt L.C_Session H a A d) : SpV (sp_is_under_way K L) [.ref a] H (.bl (decide (1 < d.burning.length) || decide (0 < d.saved.length))) := fun H1 e Q q E => ⟨a, A, d, rfl, hs.mono e, q⟩
/-- is_place of the specification's session -/
theorem et_place {x : Abs} {p : Nat} (hs : SesAt L.C_Session H a A (dat x)) (h1 : Ev ta σ H (.ref a)) (h2 : Ev tb σ H (.int (p : Int))) : EvT (tB (tCall (sp_is_place K L) [] C8.E0 (tCons ta (tCons tb tNil)))) σ H (x.isP p) :=
  et_is (et_B (ev_call (ea_cons h1 (ea_cons h2 ea_nil)) (spv_is_place hs))) (by
    rw [dat_len]
    exact decide_eq_decide.mpr (by omega))
theorem et_begun {x : Abs} (hs : SesAt L.C_Session H a A (dat x)) (h1 : Ev ta σ H (.ref a)) : EvT (tB (tCall (sp_is_under_way K L) [] C8.E0 (tCons ta tNil))) σ H x.begun :=
  et_is (et_B (ev_call (ea_cons h1 ea_nil) (spv_is_under_way hs))) (by
    unfold Su121.Abs.begun
    show (decide (1 < (I x.burns).length) || decide (0 < (I x.saved).length)) = _
    rw [I_len, I_len]
    congr 1
    cases x.saved with
    | nil => rfl
    | cons _ _ => rfl)
theorem ev_joinedLen {x : Abs} (T : Txt K mg L) (hs : SesAt L.C_Session H a A (dat x)) (h1 : Ev ta σ H (.ref a)) : Ev (tCB (rLenS K) (tCons (tFld K ta "joined") tNil)) σ H (.int (x.n : Int)) := by
  have q := ev_len (K := K) (ev_joined T hs h1) (sq_of hs.jl)
  rw [dat_len] at q
  exact q
theorem eqI (i j : Int) : decide (V.int i = V.int j) = decide (i = j) := decide_eq_decide.mpr ⟨fun h => V.int.inj h, fun h => h ▸ rfl⟩
theorem pure_begin (T : Txt K mg L) (vs : List V) (H : Hp) (Q : VK) (E : XK) (h : sp_begin K L vs H Q E) : t_begin K L (En Q) (start N_begin vs) H := by
  obtain ⟨a, A, d, rfl, hs, k⟩ := h
  refine q_fldL (xs := [.non]) (el_lst (ea_cons ev_c ea_nil) (by show 1 ≤ 100000; decide)) (ev_var rfl) hs.ins T.cl_Session T.a_Session_joined fs_len fun p H1 hp e1 h1 => ?_
  have n1 : p ≠ A.as := fun z => by rw [z, hs.sl] at hp; cases hp
  have n2 : p ≠ A.ab := fun z => by rw [z, hs.bl] at hp; cases hp
  have s1 := (hs.mono e1).setJoined h1 n1 n2
  have t1 := Stp.setX hs e1 s1 (.inr (nw_of hp)) (.inl rfl) (.inl rfl)
  refine q_fld ev_c (ev_var rfl) s1.ins T.cl_Session T.a_Session_origin fs_len fun H2 e2 => ?_
  have s2 := (s1.mono e2).setOrigin 0
  have t2 := Stp.trans t1 (Stp.setX s1 e2 s2 (.inl rfl) (.inl rfl) (.inl rfl)) hs
  refine q_fld ev_c (ev_var rfl) s2.ins T.cl_Session T.a_Session_each fs_len fun H3 e3 => ?_
  have s3 := (s2.mono e3).setEach 1
  have t3 := Stp.trans t2 (Stp.setX s2 e3 s3 (.inl rfl) (.inl rfl) (.inl rfl)) hs
  refine q_do (ea_cons (ev_var rfl) ea_nil) fun H4 e4 => ⟨a, _, _, rfl, s3.mono e4, fun A5 H5 st => ?_⟩
  exact ret_one (Stp.trans (t3.ex e4) st hs) k ev_c
theorem pure_join (T : Txt K mg L) (vs : List V) (H : Hp) (Q : VK) (E : XK) (h : sp_join K L vs H Q E) : t_join K L (En Q) (start N_join vs) H := by
  obtain ⟨a, A, x, p, rfl, hs, o, k⟩ := h
  rw [show Su121.does x (.join p) = if x.isP p = false then (x, Su121.no (-2)) else if x.begun = true then (x, Su121.no (-16)) else if Su121.PLACES ≤ x.n then (x, Su121.no (-28)) else ({ x with tree := ⟨x.tree.up ++ [p]⟩ }, Su121.num x.n []) from rfl] at k
  refine q_when (et_not (et_place hs (ev_var rfl) (ev_var rfl))) (fun c H1 e1 => ?_) (fun c H1 e1 => ?_)
  · rw [if_pos (by simpa using c)] at k
    exact ret_ref ((Stp.refl hs).ex e1) k ev_c
  rw [if_neg (by simpa using c)] at k
  refine q_when (et_begun (hs.mono e1) (ev_var rfl)) (fun c2 H2 e2 => ?_) (fun c2 H2 e2 => ?_)
  · rw [if_pos c2] at k
    exact ret_ref ((Stp.refl hs).ex (e1.trans e2)) k ev_c
  rw [if_neg (by rw [c2]; decide)] at k
  have e12 := e1.trans e2
  have hs2 := hs.mono e12
  refine q_when (et_test (ev_op (ev_joinedLen T hs2 (ev_var rfl)) ev_c (rv_eq rfl))) (fun c3 H3 e3 => ?_) (fun c3 H3 e3 => ?_)
  · rw [eqI, decide_eq_true_eq] at c3
    rw [if_pos (show Su121.PLACES ≤ x.n from Nat.le_of_eq (by show 12 = x.n; omega))] at k
    exact ret_ref ((Stp.refl hs).ex (e12.trans e3)) k ev_c
  rw [eqI, decide_eq_false_iff_not] at c3
  have n12 := o.n12
  rw [if_neg (show ¬ Su121.PLACES ≤ x.n from fun z => by have : 12 ≤ x.n := z; omega)] at k
  have e13 := e12.trans e3
  have hs3 := hs.mono e13
  refine q_app hs3.jl (ev_joined T hs3 (ev_var rfl)) (ev_var rfl) (by rw [dat_len]; omega) fun H4 e4 => ?_
  have hs4 := hs.mono (e13.trans e4)
  have e : (dat x).joined ++ [.int (p : Int)] = joinedV (x.tree.up ++ [p]) := by
    show V.non :: ((I x.tree.up).map V.int ++ [.int (p : Int)]) = V.non :: (I (x.tree.up ++ [p])).map V.int
    rw [I_append, List.map_append]
    rfl
  rw [e]
  have s5 : SesAt L.C_Session _ a A (dat { x with tree := ⟨x.tree.up ++ [p]⟩ }) := hs4.putJ _
  have t5 : Stp L a A H A (dat { x with tree := ⟨x.tree.up ++ [p]⟩ }) _ := Stp.trans ((Stp.refl hs).ex (e13.trans e4)) (Stp.putJ hs4 _) hs
  refine ret_one t5 k (ev_is (ev_op (ev_joinedLen T s5 (ev_var rfl)) ev_c rv_I0) ?_)
  show V.int (((x.tree.up ++ [p]).length + 1 : Nat) - 1) = V.int (Int.ofNat x.n)
  rw [List.length_append]
  congr 1
  show ((x.tree.up.length + 1 + 1 : Nat) : Int) - 1 = ((x.tree.up.length + 1 : Nat) : Int)
  omega
end
end FS

set_option maxRecDepth 100000
set_option maxHeartbeats 4000000
namespace FS
open PySem PySem.Spec PyProof.Rows L2 Evl
open Su121 (Abs)
section
variable {K : PySem.W.Frag} {mg : Str → Option Value} {L : Locs} {σ : L2.St} {H H1 : Hp} {ta te tb : TE} {ts : TA} {tz : TS} {D : Ends} {C a : Addr} {A A1 : Adr} {d d1 : Dat} {Q : VK} {E : XK} {sp : Sp} {dvs vs : List V}
/-- xs.pop() for what it does -/
theorem q_pop {l : Addr} {xs : List V} (hl : H l = some (.lst xs)) (ha : Ev ta σ H (.ref l)) (hz : xs ≠ []) (k : ∀ H1, Ex H H1 → tz D σ (upd H1 l (.lst xs.dropLast))) : tSeq (tDrop (tBM0 K "list" rPop ta)) tz D σ H := ha H (Ex.refl H) _ fun H1 e1 => by
  have hl1 := e1 l _ hl
  have hp : 0 < xs.length := List.length_pos_iff.mpr hz
  exact ⟨Or.inl ⟨rfl, xs, sq_of hl1⟩, l, xs, xs[xs.length - 1]'(by omega), rfl, rfl, hl1, List.getElem?_eq_getElem (by omega), k H1 e1⟩
theorem q_fldaug {dx : Addr} {fs : List (Str × V)} {f : Str} {i j : Int} (h : Ev ta σ H (.ref a)) (ho : H a = some (.ins C dx fs)) (c : Cls K C) (n : NoAttr K C f) (l : fs.lookup f = some (.int i)) (hl : fs.length < 1000) (hv : Ev te σ H (.int j))
    (k : ∀ H1, Ex H H1 → tz D σ (upd H1 a (.ins C dx (putF f (.int (i + j)) fs)))) : tSeq (sFldAug K ta te L2.rAdd f) tz D σ H := h H (Ex.refl H) _ fun H1 e1 =>
  ⟨a, C, dx, fs, .int i, rfl, e1 _ _ ho, c, n, l, hv H1 e1 _ fun H2 e2 => ⟨i, j, rfl, rfl, dx, fs, e2 _ _ (e1 _ _ ho), hl, k H2 (e1.trans e2)⟩⟩
theorem el_call1 {xs : List V} (h : Ev ta σ H (.ref a)) (hs : SpL sp [.ref a] H xs) : EvL (tCall sp [] E (tCons ta tNil)) σ H xs := el_call (ea_cons h ea_nil) hs
theorem map_dropLast {α β : Type} (f : α → β) : ∀ l : List α, l.dropLast.map f = (l.map f).dropLast
  | [] => rfl
  | [x] => rfl
  | x :: y :: l => by
    have ih := map_dropLast f (y :: l)
    show f x :: (y :: l).dropLast.map f = f x :: ((y :: l).map f).dropLast
    rw [ih]
theorem pure_drop (T : Txt K mg L) (vs : List V) (H : Hp) (Q : VK) (E : XK) (h : sp_drop K L vs H Q E) : t_drop K L (En Q) (start N_drop vs) H := by
  obtain ⟨a, A, x, rfl, hs, o, k⟩ := h
  rw [show Su121.does x .drop = if x.begun = true then (x, Su121.no (-16)) else if x.n = 1 then (x, Su121.no (-6)) else if x.fire + 1 = x.n then (x, Su121.no (-17)) else ({ x with tree := ⟨x.tree.up.dropLast⟩ }, Su121.num (x.n - 1) []) from rfl] at k
  refine q_when (et_begun hs (ev_var rfl)) (fun c H1 e1 => ?_) (fun c H1 e1 => ?_)
  · rw [if_pos c] at k
    exact ret_ref ((Stp.refl hs).ex e1) k ev_c
  rw [if_neg (by rw [c]; decide)] at k
  have hs1 := hs.mono e1
  refine q_when (et_test (ev_op (ev_joinedLen T hs1 (ev_var rfl)) ev_c (rv_eq rfl))) (fun c2 H2 e2 => ?_) (fun c2 H2 e2 => ?_)
  · rw [eqI, decide_eq_true_eq] at c2
    rw [if_pos (by omega)] at k
    exact ret_ref ((Stp.refl hs).ex (e1.trans e2)) k ev_c
  rw [eqI, decide_eq_false_iff_not] at c2
  rw [if_neg (by omega)] at k
  have e12 := e1.trans e2
  have hs2 := hs.mono e12
  refine q_when (et_test (ev_op (ev_origin T hs2 (ev_var rfl)) (ev_op (ev_joinedLen T hs2 (ev_var rfl)) ev_c rv_I0) (rv_eq rfl))) (fun c3 H3 e3 => ?_) (fun c3 H3 e3 => ?_)
  · rw [eqI, decide_eq_true_eq] at c3
    have c3' : (x.fire : Int) = (x.n : Int) - 1 := c3
    rw [if_pos (by omega)] at k
    exact ret_ref ((Stp.refl hs).ex (e12.trans e3)) k ev_c
  rw [eqI, decide_eq_false_iff_not] at c3
  have c3' : ¬ (x.fire : Int) = (x.n : Int) - 1 := c3
  have hn1 : x.n = x.tree.up.length + 1 := rfl
  rw [if_neg (by omega)] at k
  have e13 := e12.trans e3
  have hs3 := hs.mono e13
  refine q_pop hs3.jl (ev_joined T hs3 (ev_var rfl)) (List.cons_ne_nil _ _) fun H4 e4 => ?_
  have hs4 := hs.mono (e13.trans e4)
  have hne : x.tree.up ≠ [] := fun z => by rw [z] at hn1; exact c2 (by rw [hn1]; rfl)
  have e : (dat x).joined.dropLast = joinedV x.tree.up.dropLast := by
    show (V.non :: (I x.tree.up).map V.int).dropLast = V.non :: (I x.tree.up.dropLast).map V.int
    have ne : (I x.tree.up).map V.int ≠ [] := fun z => by
      have := congrArg List.length z
      rw [List.length_map, I_len] at this
      exact hne (List.length_eq_zero_iff.mp this)
    rw [List.dropLast_cons_of_ne_nil ne]
    unfold I
    rw [map_dropLast, map_dropLast]
  rw [e]
  have s5 : SesAt L.C_Session _ a A (dat { x with tree := ⟨x.tree.up.dropLast⟩ }) := hs4.putJ _
  have t5 : Stp L a A H A (dat { x with tree := ⟨x.tree.up.dropLast⟩ }) _ := Stp.trans ((Stp.refl hs).ex (e13.trans e4)) (Stp.putJ hs4 _) hs
  refine ret_one t5 k (ev_is (ev_joinedLen T s5 (ev_var rfl)) ?_)
  show V.int ((x.tree.up.dropLast.length + 1 : Nat) : Int) = V.int (Int.ofNat (x.n - 1))
  rw [List.length_dropLast, hn1]
  have : 0 < x.tree.up.length := List.length_pos_iff.mpr hne
  show V.int ((x.tree.up.length - 1 + 1 : Nat) : Int) = V.int ((x.tree.up.length + 1 - 1 : Nat) : Int)
  congr 1
  omega
theorem pure_fire (T : Txt K mg L) (vs : List V) (H : Hp) (Q : VK) (E : XK) (h : sp_fire K L vs H Q E) : t_fire K L (En Q) (start N_fire vs) H := by
  obtain ⟨a, A, x, p, rfl, hs, o, k⟩ := h
  rw [show Su121.does x (.fire p) = if x.isP p = false then (x, Su121.no (-2)) else (({ x with fire := p } : Abs).fresh, Su121.num x.fire []) from rfl] at k
  refine q_when (et_not (et_place hs (ev_var rfl) (ev_var rfl))) (fun c H1 e1 => ?_) (fun c H1 e1 => ?_)
  · rw [if_pos (by simpa using c)] at k
    exact ret_ref ((Stp.refl hs).ex e1) k ev_c
  rw [if_neg (by simpa using c)] at k
  have hs1 := hs.mono e1
  refine q_asg (ev_origin T hs1 (ev_var rfl)) fun H2 e2 => ?_
  have hs2 := hs1.mono e2
  refine q_fld (ev_var rfl) (ev_var rfl) hs2.ins T.cl_Session T.a_Session_origin fs_len fun H3 e3 => ?_
  have s3 := (hs2.mono e3).setOrigin p
  have t3 := Stp.setX hs ((e1.trans e2).trans e3) s3 (.inl rfl) (.inl rfl) (.inl rfl)
  refine q_do (ea_cons (ev_var rfl) ea_nil) fun H4 e4 => ⟨a, _, _, rfl, s3.mono e4, fun A5 H5 st => ?_⟩
  exact ret_one (Stp.trans (t3.ex e4) st hs) k (ev_var rfl)
theorem pure_each (T : Txt K mg L) (vs : List V) (H : Hp) (Q : VK) (E : XK) (h : sp_each K L vs H Q E) : t_each K L (En Q) (start N_each vs) H := by
  obtain ⟨a, A, x, n, rfl, hs, o, k⟩ := h
  rw [show Su121.does x (.each n) = if n = 0 ∨ Su121.EACH < n then (x, Su121.no (-22)) else (({ x with each := n } : Abs).fresh, Su121.num x.each []) from rfl] at k
  refine q_when (et_test (ev_niU (ev_var rfl) (eu_tup (ea_cons ev_c (ea_cons ev_c ea_nil)) (by show 2 ≤ 100000; decide)) rfl rfl)) (fun c H1 e1 => ?_) (fun c H1 e1 => ?_)
  · have c' : (!inV (.int (n : Int)) ([1, 2].map V.int)) = true := c
    rw [inV_ints, Bool.not_eq_true', decide_eq_false_iff_not] at c'
    simp only [List.mem_cons, List.not_mem_nil, or_false, not_or] at c'
    rw [if_pos (by show n = 0 ∨ 2 < n; omega)] at k
    exact ret_ref ((Stp.refl hs).ex e1) k ev_c
  have c' : (!inV (.int (n : Int)) ([1, 2].map V.int)) = false := c
  rw [inV_ints, Bool.not_eq_false', decide_eq_true_eq] at c'
  simp only [List.mem_cons, List.not_mem_nil, or_false] at c'
  rw [if_neg (by show ¬ (n = 0 ∨ 2 < n); omega)] at k
  have hs1 := hs.mono e1
  refine q_asg (ev_each T hs1 (ev_var rfl)) fun H2 e2 => ?_
  have hs2 := hs1.mono e2
  refine q_fld (ev_var rfl) (ev_var rfl) hs2.ins T.cl_Session T.a_Session_each fs_len fun H3 e3 => ?_
  have s3 := (hs2.mono e3).setEach n
  have t3 := Stp.setX hs ((e1.trans e2).trans e3) s3 (.inl rfl) (.inl rfl) (.inl rfl)
  refine q_do (ea_cons (ev_var rfl) ea_nil) fun H4 e4 => ⟨a, _, _, rfl, s3.mono e4, fun A5 H5 st => ?_⟩
  exact ret_one (Stp.trans (t3.ex e4) st hs) k (ev_var rfl)
theorem pure_save (T : Txt K mg L) (vs : List V) (H : Hp) (Q : VK) (E : XK) (h : sp_save K L vs H Q E) : t_save K L (En Q) (start N_save vs) H := by
  obtain ⟨a, A, x, p, rfl, hs, o, k⟩ := h
  rw [show Su121.does x (.save p) = if x.isP p = false then (x, Su121.no (-2)) else if x.burns.contains p = true then (x, Su121.no (-33)) else if x.saved.contains p = true then (x, Su121.no (-17)) else if x.each ≤ x.used then (x, Su121.no (-28)) else ({ x with saved := x.saved ++ [p], used := x.used + 1 }, Su121.num x.saved.length.succ []) from rfl] at k
  refine q_when (et_not (et_place hs (ev_var rfl) (ev_var rfl))) (fun c H1 e1 => ?_) (fun c H1 e1 => ?_)
  · rw [if_pos (by simpa using c)] at k
    exact ret_ref ((Stp.refl hs).ex e1) k ev_c
  rw [if_neg (by simpa using c)] at k
  have hs1 := hs.mono e1
  refine q_when (et_test (ev_is (ev_inL (ev_var rfl) (ev_burning T hs1 (ev_var rfl)) (sq_of hs1.bl) rfl (flat_ints _)) (congrArg V.bl (inV_I p x.burns)))) (fun c2 H2 e2 => ?_) (fun c2 H2 e2 => ?_)
  · rw [if_pos c2] at k
    exact ret_ref ((Stp.refl hs).ex (e1.trans e2)) k ev_c
  rw [if_neg (by rw [c2]; decide)] at k
  have e12 := e1.trans e2
  have hs2 := hs.mono e12
  refine q_when (et_test (ev_is (ev_inL (ev_var rfl) (ev_saved T hs2 (ev_var rfl)) (sq_of hs2.sl) rfl (flat_ints _)) (congrArg V.bl (inV_I p x.saved)))) (fun c3 H3 e3 => ?_) (fun c3 H3 e3 => ?_)
  · rw [if_pos c3] at k
    exact ret_ref ((Stp.refl hs).ex (e12.trans e3)) k ev_c
  rw [if_neg (by rw [c3]; decide)] at k
  have e13 := e12.trans e3
  have hs3 := hs.mono e13
  refine q_when (et_test (ev_op (ev_used T hs3 (ev_var rfl)) (ev_each T hs3 (ev_var rfl)) (rv_eq rfl))) (fun c4 H4 e4 => ?_) (fun c4 H4 e4 => ?_)
  · rw [eqI, decide_eq_true_eq] at c4
    have c4' : (x.used : Int) = (x.each : Int) := c4
    rw [if_pos (by omega)] at k
    exact ret_ref ((Stp.refl hs).ex (e13.trans e4)) k ev_c
  rw [eqI, decide_eq_false_iff_not] at c4
  have c4' : ¬ (x.used : Int) = (x.each : Int) := c4
  rw [if_neg (by have := o.used; omega)] at k
  have e14 := e13.trans e4
  have hs4 := hs.mono e14
  have hl := o.sl
  refine q_app hs4.sl (ev_saved T hs4 (ev_var rfl)) (ev_var rfl) (by rw [List.length_map]; show (I x.saved).length < _; rw [I_len]; omega) fun H5 e5 => ?_
  have hs5 := hs.mono (e14.trans e5)
  have e : (dat x).saved.map V.int ++ [.int (p : Int)] = (I (x.saved ++ [p])).map V.int := by
    rw [I_append, List.map_append]
    rfl
  rw [e]
  have s6 : SesAt L.C_Session _ a A (dat { x with saved := x.saved ++ [p] }) := hs5.putS _
  have t6 : Stp L a A H A (dat { x with saved := x.saved ++ [p] }) _ := Stp.trans ((Stp.refl hs).ex (e14.trans e5)) (Stp.putS hs5 _) hs
  refine q_fldaug (ev_var rfl) s6.ins T.cl_Session T.a_Session_used fs_used fs_len ev_c fun H7 e7 => ?_
  have s7 : SesAt L.C_Session _ a A (dat { x with saved := x.saved ++ [p], used := x.used + 1 }) := (s6.mono e7).setUsed _
  have t7 := Stp.trans t6 (Stp.setX s6 e7 s7 (.inl rfl) (.inl rfl) (.inl rfl)) hs
  refine ret_one t7 k (ev_is (ev_len (ev_saved T s7 (ev_var rfl)) (sq_of s7.sl)) ?_)
  rw [List.length_map]
  show V.int ((I (x.saved ++ [p])).length : Int) = V.int (Int.ofNat x.saved.length.succ)
  rw [I_len, List.length_append]
  rfl
end
end FS

set_option maxRecDepth 100000
set_option maxHeartbeats 4000000
namespace FS
open PySem PySem.Spec PyProof.Rows L2 Evl
open Su121 (Abs)
/-! ### the fire goes on and on -/
theorem goneOn_congr {x y : Abs} (h1 : x.tree = y.tree) (h2 : x.saved = y.saved) {bs cs : List Nat} (h : ∀ p, p ∈ bs ↔ p ∈ cs) : goneOn x bs = goneOn y cs := by
  have hc : ∀ p, bs.contains p = cs.contains p := fun p => by
    rw [Bool.eq_iff_iff]
    simpa using h p
  unfold goneOn catchB Su121.Abs.ps
  rw [h1, h2]
  refine List.filter_congr fun p _ => ?_
  rw [hc p]
  congr 3
  funext q
  exact hc q
theorem mem_goneOn {x : Abs} {bs : List Nat} {p : Nat} : p ∈ goneOn x bs ↔ p < x.n ∧ (p ∈ bs ∨ catchB x p bs = true) := by
  unfold goneOn Su121.Abs.ps Su115.Abs.ps
  rw [List.mem_filter, List.mem_range, Bool.or_eq_true]
  simp [Su121.Abs.n]
theorem goneOn_lt {x : Abs} {bs : List Nat} : ∀ p ∈ goneOn x bs, p < x.n := fun p h => (mem_goneOn.mp h).1
theorem goneOn_nd {x : Abs} {bs : List Nat} : (goneOn x bs).Nodup := List.Pairwise.filter _ List.nodup_range
theorem goneOn_sub {x : Abs} {bs : List Nat} (h : ∀ p ∈ bs, p < x.n) : bs ⊆ goneOn x bs := fun p m => mem_goneOn.mpr ⟨h p m, .inl m⟩
def gIter (x : Abs) : Nat → List Nat → List Nat
  | 0, bs => bs
  | k + 1, bs => gIter x k (goneOn x bs)
theorem gIter_succ (x : Abs) : ∀ (k : Nat) (bs : List Nat), gIter x (k + 1) bs = goneOn x (gIter x k bs)
  | 0, _ => rfl
  | k + 1, bs => gIter_succ x k (goneOn x bs)
theorem gIter_congr {x y : Abs} (h1 : x.tree = y.tree) (h2 : x.saved = y.saved) : ∀ (k : Nat) (bs : List Nat), gIter x k bs = gIter y k bs
  | 0, _ => rfl
  | k + 1, bs => by
    show gIter x k (goneOn x bs) = gIter y k (goneOn y bs)
    rw [goneOn_congr h1 h2 fun _ => Iff.rfl, gIter_congr h1 h2 k]
theorem spreads_eq : ∀ (k : Nat) (x : Abs), (x.spreads k).burns = gIter x k x.burns ∧ (x.spreads k).tree = x.tree ∧ (x.spreads k).saved = x.saved
  | 0, x => ⟨rfl, rfl, rfl⟩
  | k + 1, x => by
    obtain ⟨h1, h2, h3⟩ := spreads_eq k x.spread
    refine ⟨?_, h2, h3⟩
    show (x.spread.spreads k).burns = _
    rw [h1]
    exact gIter_congr (x := x.spread) (y := x) rfl rfl k (goneOn x x.burns)
/-- where it stands still, it stands still for ever -/
theorem gIter_still {x : Abs} {bs : List Nat} (h : ∀ p, p ∈ goneOn x bs ↔ p ∈ bs) : ∀ k p, p ∈ gIter x k bs ↔ p ∈ bs
  | 0, p => Iff.rfl
  | k + 1, p => by
    have e : goneOn x (goneOn x bs) = goneOn x bs := goneOn_congr rfl rfl h
    show p ∈ gIter x k (goneOn x bs) ↔ _
    rw [gIter_still (fun q => by rw [e]) k p]
    exact h p
theorem gIter_add (x : Abs) : ∀ (j k : Nat) (bs : List Nat), gIter x (j + k) bs = gIter x j (gIter x k bs)
  | j, 0, bs => rfl
  | j, k + 1, bs => gIter_add x j k (goneOn x bs)
/-- as many, and all of them: the same ones -/
theorem same_of_len {l m : List Nat} (hl : l.Nodup) (hm : m.Nodup) (hs : l ⊆ m) (hn : m.length ≤ l.length) : ∀ p, p ∈ m ↔ p ∈ l := by
  intro p
  refine ⟨fun h => ?_, fun h => hs h⟩
  refine Classical.byContradiction fun n => ?_
  have nd : (p :: l).Nodup := List.nodup_cons.mpr ⟨n, hl⟩
  have sub : (p :: l) ⊆ m := fun q hq => by
    cases hq with
    | head => exact h
    | tail _ hq => exact hs hq
  have := nd.length_le_of_subset sub
  rw [List.length_cons] at this
  omega
section
variable {K : PySem.W.Frag} {mg : Str → Option Value} {L : Locs} {σ : L2.St} {H H1 : Hp} {ta te tb : TE} {ts : TA} {tz : TS} {D : Ends} {C a : Addr} {A A1 : Adr} {d d1 : Dat} {Q : VK} {E : XK} {sp : Sp} {dvs vs : List V}
theorem spl_counted {b : Addr} {ns : List Int} (h : H b = some (.lst (ns.map V.int))) (hn : ns.length ≤ 1000) : SpL (sp_counted K L) [.ref b] H (((ns.length : Int) :: ns).map V.int) := fun H1 e Q q E => ⟨b, ns, rfl, e _ _ h, hn, q⟩
theorem spl_gone_on {x : Abs} {b : Addr} {bs : List Nat} (hs : SesAt L.C_Session H a A (dat x)) (o : Ok x) (h : H b = some (.lst ((I bs).map V.int))) (hb : ∀ q ∈ bs, q < x.n) (hl : bs.length ≤ 12) : SpL (sp_gone_on K L) [.ref a, .ref b] H ((I (goneOn x bs)).map V.int) :=
  fun H1 e Q q E => ⟨a, A, x, b, bs, rfl, hs.mono e, o, e _ _ h, hb, hl, q⟩
theorem el_callL {xs ys : List V} (h : EvL te σ H xs) (hs : ∀ p H1, Ex H H1 → H1 p = some (.lst xs) → SpL sp [.ref p] H1 ys) : EvL (tCall sp [] E (tCons te tNil)) σ H ys := fun H1 e Q q =>
  h H1 e _ fun p H2 hp e2 h2 => hs p H2 (e.trans e2) h2 H2 (Ex.refl _) Q (fun p' H3 hp' e3 h3 => q p' H3 (fresh_back e2 hp') (e2.trans e3) h3) E
theorem ret_list {n : Nat} {ns : List Nat} (st : Stp L a A H A1 d1 H1) (k : RetC L a A H d1 (ansI (Su121.list ns)) Q) (h : EvL te σ H1 ((((I ns).length : Int) :: I ns).map V.int)) : tRet te (En Q) σ H1 := by
  refine ret_stp st k (el_is h ?_)
  rw [I_len]
  rfl
theorem pure_burns (T : Txt K mg L) (vs : List V) (H : Hp) (Q : VK) (E : XK) (h : sp_burns K L vs H Q E) : t_burns K L (En Q) (start N_burns vs) H := by
  obtain ⟨a, A, x, rfl, hs, o, k⟩ := h
  exact ret_list (n := 0) (Stp.refl hs) k (el_call1 (ev_burning T hs (ev_var rfl)) (spl_counted hs.bl (by show (I x.burns).length ≤ _; rw [I_len]; have := o.bl; omega)))
theorem pure_saved (T : Txt K mg L) (vs : List V) (H : Hp) (Q : VK) (E : XK) (h : sp_saved K L vs H Q E) : t_saved K L (En Q) (start N_saved vs) H := by
  obtain ⟨a, A, x, rfl, hs, o, k⟩ := h
  exact ret_list (n := 0) (Stp.refl hs) k (el_call1 (ev_saved T hs (ev_var rfl)) (spl_counted hs.sl (by show (I x.saved).length ≤ _; rw [I_len]; have := o.sl; omega)))
theorem pure_again (T : Txt K mg L) (vs : List V) (H : Hp) (Q : VK) (E : XK) (h : sp_again K L vs H Q E) : t_again K L (En Q) (start N_again vs) H := by
  obtain ⟨a, A, x, rfl, hs, o, k⟩ := h
  refine q_asgL (xs := [.int (x.burns.length : Int), .int (x.saved.length : Int)]) (el_lst (ea_cons (ev_is (ev_len (ev_burning T hs (ev_var rfl)) (sq_of hs.bl)) ?_) (ea_cons (ev_is (ev_len (ev_saved T hs (ev_var rfl)) (sq_of hs.sl)) ?_) ea_nil)) (by show 2 ≤ 100000; decide)) fun p H1 hp e1 h1 => ?_
  · rw [List.length_map]
    show V.int ((I x.burns).length : Int) = _
    rw [I_len]
  · rw [List.length_map]
    show V.int ((I x.saved).length : Int) = _
    rw [I_len]
  have hs1 := hs.mono e1
  refine q_do (ea_cons (ev_var rfl) ea_nil) fun H2 e2 => ⟨a, A, _, rfl, hs1.mono e2, fun A3 H3 st => ?_⟩
  refine s_ret (ev_var rfl) fun H4 e4 => ?_
  have st' := Stp.trans ((Stp.refl hs).ex (e1.trans e2)) st hs
  have n1 : p ≠ a := fun z => by rw [z, hs.ins] at hp; cases hp
  have n2 : p ≠ A.aj := fun z => by rw [z, hs.jl] at hp; cases hp
  have n3 : p ≠ A.as := fun z => by rw [z, hs.sl] at hp; cases hp
  exact k p A3 H4 (nw_of hp) (e4 _ _ (st.kept.keep _ _ (e2 _ _ h1) nt_lst n1 n2 n3)) (st'.ex e4)
theorem pure_turn (T : Txt K mg L) (vs : List V) (H : Hp) (Q : VK) (E : XK) (h : sp_turn K L vs H Q E) : t_turn K L (En Q) (start N_turn vs) H := by
  obtain ⟨a, A, x, rfl, hs, o, k⟩ := h
  have lb : (dat x).burning.length = x.burns.length := I_len _
  refine q_asg (v := .int (x.burns.length : Int)) (ev_is (ev_len (ev_burning T hs (ev_var rfl)) (sq_of hs.bl)) (by rw [List.length_map, lb])) fun H1 e1 => ?_
  have hs1 := hs.mono e1
  refine q_fldL (el_call (ea_cons (ev_var rfl) (ea_cons (ev_burning T hs1 (ev_var rfl)) ea_nil)) (spl_gone_on hs1 o hs1.bl o.burns o.bl)) (ev_var rfl) hs1.ins T.cl_Session T.a_Session_burning fs_len fun p H2 hp e2 h2 => ?_
  have n1 : p ≠ A.as := fun z => by rw [z, hs1.sl] at hp; cases hp
  have n2 : p ≠ A.aj := fun z => by rw [z, hs1.jl] at hp; cases hp
  have s2 := (hs1.mono e2).setBurning h2 n1 n2
  have t2 := Stp.setX hs (e1.trans e2) s2 (.inl rfl) (.inr (nw_of (fresh_back e1 hp))) (.inl rfl)
  refine q_fld ev_c (ev_var rfl) s2.ins T.cl_Session T.a_Session_used fs_len fun H3 e3 => ?_
  have s3 := (s2.mono e3).setUsed 0
  have t3 : Stp L a A H _ (dat x.spread) _ := Stp.trans t2 (Stp.setX s2 e3 s3 (.inl rfl) (.inl rfl) (.inl rfl)) hs
  have l3 : ∀ σ : L2.St, σ[0]? = some (some (.ref a)) → Ev (tCB (rLenS K) (tCons (tFld K (tVar 0) "burning") tNil)) σ _ (.int (x.spread.burns.length : Int)) := fun σ h => ev_is (ev_len (ev_burning T s3 (ev_var h)) (sq_of s3.bl)) (by
    rw [List.length_map]
    show V.int ((I (goneOn x x.burns)).length : Int) = _
    rw [I_len]
    rfl)
  have le : x.burns.length ≤ x.spread.burns.length := o.bnd.length_le_of_subset (goneOn_sub o.burns)
  refine ret_stp t3 k (el_is (el_lst (ea_cons (ev_op (l3 _ rfl) (ev_var rfl) rv_I0) (ea_cons (l3 _ rfl) ea_nil)) (by show 2 ≤ 100000; decide)) ?_)
  show [V.int ((x.spread.burns.length : Int) - (x.burns.length : Int)), V.int (x.spread.burns.length : Int)] = [V.int (Int.ofNat (x.spread.burns.length - x.burns.length)), V.int (x.spread.burns.length : Int)]
  congr 2
  show _ = ((x.spread.burns.length - x.burns.length : Nat) : Int)
  omega
end
end FS

set_option maxRecDepth 100000
set_option maxHeartbeats 4000000
namespace FS
open PySem PySem.Spec PyProof.Rows L2 Evl
open Su121 (Abs)
theorem gIter_lt {x : Abs} {bs : List Nat} (h : ∀ p ∈ bs, p < x.n) : ∀ k, ∀ p ∈ gIter x k bs, p < x.n
  | 0 => h
  | k + 1 => by
    rw [gIter_succ]
    exact goneOn_lt
theorem gIter_nd {x : Abs} {bs : List Nat} (h : bs.Nodup) : ∀ k, (gIter x k bs).Nodup
  | 0 => h
  | k + 1 => by
    rw [gIter_succ]
    exact goneOn_nd
theorem gIter_len {x : Abs} {bs : List Nat} (nd : bs.Nodup) (h : ∀ p ∈ bs, p < x.n) (k : Nat) : (gIter x k bs).length ≤ x.n := nodup_le (gIter_nd nd k) (gIter_lt h k)
/-- where the next one is no longer, it's the end -/
theorem gIter_end {x : Abs} {bs : List Nat} (nd : bs.Nodup) (h : ∀ p ∈ bs, p < x.n) {i : Nat} (hi : i ≤ x.n) (hl : (gIter x (i + 1) bs).length ≤ (gIter x i bs).length) (p : Nat) : p ∈ gIter x x.n bs ↔ p ∈ gIter x i bs := by
  have same : ∀ p, p ∈ goneOn x (gIter x i bs) ↔ p ∈ gIter x i bs := same_of_len (gIter_nd nd i) goneOn_nd (goneOn_sub (gIter_lt h i)) (by rw [← gIter_succ]; exact hl)
  have e : x.n = (x.n - i) + i := by omega
  rw [e, gIter_add]
  exact gIter_still same _ p
section
variable {K : PySem.W.Frag} {mg : Str → Option Value} {L : Locs}
theorem pure_safe (T : Txt K mg L) (vs : List V) (H : Hp) (Q : VK) (E : XK) (h : sp_safe K L vs H Q E) : t_safe K L (En Q) (start N_safe vs) H := by
  obtain ⟨a, A, x, rfl, hs, o, k⟩ := h
  have n12 := o.n12
  refine q_asg (ev_burning T hs (ev_var rfl)) fun H1 e1 => ?_
  have hs1 := hs.mono e1
  refine q_asgL (el_call (ea_cons (ev_var rfl) (ea_cons (ev_var rfl) ea_nil)) (spl_gone_on hs1 o hs1.bl o.burns o.bl)) fun am H2 hp e2 h2 => ?_
  have hs2 := hs1.mono e2
  refine q_while (fun m σ' H' => ∃ i ab am v, m = 12 - i ∧ i ≤ x.n ∧ i ≤ (gIter x i x.burns).length ∧ σ' = [some (.ref a), some (.ref ab), some (.ref am), v] ∧ Ex H H' ∧ H' ab = some (.lst ((I (gIter x i x.burns)).map V.int)) ∧ H' am = some (.lst ((I (gIter x (i + 1) x.burns)).map V.int))) 12
    ⟨0, A.ab, am, none, rfl, Nat.zero_le _, Nat.zero_le _, rfl, e1.trans e2, hs2.bl, h2⟩ ?_
  rintro m σ' H' ⟨i, ab, am, v, rfl, hi, hil, rfl, e, hb, hm⟩
  have lt := gIter_lt o.burns
  have len := gIter_len o.bnd o.burns
  have hse := hs.mono e
  refine ⟨_, et_test (ev_op (ev_len (ev_var rfl) (sq_of hm)) (ev_len (ev_var rfl) (sq_of hb)) rv_I0), fun c H3 e3 => ?_, fun c H3 e3 => ?_⟩
  · rw [List.length_map, List.length_map, I_len, I_len, decide_eq_true_eq] at c
    have l1 := len (i + 1)
    refine ⟨fun σ2 H2 => ∃ ab am v, σ2 = [some (.ref a), some (.ref ab), some (.ref am), v] ∧ Ex H H2 ∧ H2 ab = some (.lst ((I (gIter x (i + 1) x.burns)).map V.int)) ∧ H2 am = some (.lst ((I (gIter x (i + 1 + 1) x.burns)).map V.int)),
      fun σ2 H2 ⟨ab, am, v, h1, h2, h3, h4⟩ => ⟨12 - (i + 1), by omega, i + 1, ab, am, v, rfl, by omega, by omega, h1, h2, h3, h4⟩, ?_⟩
    refine q_asg (ev_var rfl) fun H4 e4 => ?_
    have hs4 := hse.mono (e3.trans e4)
    have hm4 := e4 _ _ (e3 _ _ hm)
    refine s_asgL (el_call (ea_cons (ev_var rfl) (ea_cons (ev_var rfl) ea_nil)) (spl_gone_on hs4 o hm4 (lt (i + 1)) (Nat.le_trans l1 n12))) fun am2 H5 hp e5 h5 => ?_
    refine ⟨am, am2, v, rfl, (e.trans (e3.trans e4)).trans e5, e5 _ _ hm4, ?_⟩
    rw [gIter_succ x (i + 1)]
    exact h5
  · rw [List.length_map, List.length_map, I_len, I_len, decide_eq_false_iff_not] at c
    have hs3 := hse.mono e3
    have hb3 := e3 _ _ hb
    have fin := gIter_end o.bnd o.burns hi (by omega)
    refine ret_list (n := 0) ((Stp.refl hs).ex (e.trans e3)) k (el_callL (el_is (el_lcR1 (fun p => !(gIter x i x.burns).contains p) (fun p => .int (p : Int)) (ea_cons (ev_joinedLen T hs3 (ev_var rfl)) ea_nil) (by omega) (fun _ => rfl)
      (fun p H4 e4 hp => et_test (ev_is (ev_niL (ev_var rfl) (ev_var rfl) (sq_of (e4 _ _ hb3)) rfl (flat_ints _)) ?_)) (fun p H4 e4 hp _ => ev_var rfl)) ?_) fun p H4 e4 h4 => spl_counted h4 ?_)
    · rw [inV_I]
    · unfold given
      rw [show ((x.n : Nat) : Int).toNat = x.n from rfl]
      have es : x.safe = (List.range x.n).filter fun p => !(gIter x i x.burns).contains p := by
        unfold Su121.Abs.safe Su121.Abs.ps Su115.Abs.ps
        refine List.filter_congr fun p _ => ?_
        rw [(spreads_eq x.n x).1]
        congr 1
        rw [Bool.eq_iff_iff]
        simpa using fin p
      rw [es]
      unfold I
      rw [List.map_map]
      rfl
    · rw [I_len]
      have : x.safe.length ≤ x.n := nodup_le (List.Pairwise.filter _ List.nodup_range) (fun p hp => List.mem_range.mp (List.mem_filter.mp hp).1)
      omega
end
end FS

set_option maxRecDepth 100000
set_option maxHeartbeats 4000000
namespace FS
open Su121 (Abs)
/-! ### every call leaves a session that is well -/
theorem ok_one : Ok Su121.one := ⟨fun i h => (Nat.not_lt_zero _ h).elim, by decide, by decide, .inl rfl, by decide, by decide, by decide, (fun p h => (List.not_mem_nil h).elim), by decide, by decide⟩
theorem Ok.fresh {x : Abs} (o : Ok x) : Ok x.fresh := ⟨o.wf, o.n12, o.fire, o.each, fun p h => by rw [List.mem_singleton.mp h]; exact o.fire, List.mem_singleton.mpr rfl, List.nodup_cons.mpr ⟨List.not_mem_nil, List.nodup_nil⟩, fun p h => (List.not_mem_nil h).elim, List.nodup_nil, Nat.zero_le _⟩
theorem Ok.spread {x : Abs} (o : Ok x) : Ok x.spread := ⟨o.wf, o.n12, o.fire, o.each, goneOn_lt (x := x) (bs := x.burns), goneOn_sub o.burns o.lit, goneOn_nd (x := x) (bs := x.burns), o.saved, o.snd, Nat.zero_le _⟩
theorem ok_does {x : Abs} (o : Ok x) (c : Su121.Call) : Ok (Su121.does x c).1 := by
  have n12 := o.n12
  have hn : x.n = x.tree.up.length + 1 := rfl
  cases c with
  | begin_ => exact ok_one
  | join p =>
    show Ok (if x.isP p = false then (x, Su121.no (-2)) else if x.begun = true then (x, Su121.no (-16)) else if Su121.PLACES ≤ x.n then (x, Su121.no (-28)) else ({ x with tree := ⟨x.tree.up ++ [p]⟩ }, Su121.num x.n [])).1
    by_cases c1 : x.isP p = false
    · rw [if_pos c1]; exact o
    rw [if_neg c1]
    by_cases c2 : x.begun = true
    · rw [if_pos c2]; exact o
    rw [if_neg c2]
    by_cases c3 : Su121.PLACES ≤ x.n
    · rw [if_pos c3]; exact o
    rw [if_neg c3]
    have hp : p < x.n := by
      unfold Su121.Abs.isP at c1
      simpa using c1
    have c3' : ¬ 12 ≤ x.n := c3
    have hl : (x.tree.up ++ [p]).length = x.tree.up.length + 1 := by rw [List.length_append]; rfl
    have hn' : ({ x with tree := ⟨x.tree.up ++ [p]⟩ } : Abs).n = x.n + 1 := by
      show (x.tree.up ++ [p]).length + 1 = _
      rw [hl]
      rfl
    refine ⟨fun i hi => ?_, ?_, ?_, o.each, fun q hq => ?_, o.lit, o.bnd, fun q hq => ?_, o.snd, o.used⟩
    · have hi' : i < (x.tree.up ++ [p]).length := hi
      rw [hl] at hi'
      show (x.tree.up ++ [p]).getD i 0 ≤ i
      rw [List.getD_eq_getElem?_getD]
      by_cases e : i < x.tree.up.length
      · rw [List.getElem?_append_left e, ← List.getD_eq_getElem?_getD]
        exact o.wf i e
      · have : i = x.tree.up.length := by omega
        subst this
        rw [List.getElem?_append_right (Nat.le_refl _), Nat.sub_self]
        show p ≤ _
        omega
    · rw [hn']; omega
    · rw [hn']; exact Nat.lt_succ_of_lt o.fire
    · rw [hn']; exact Nat.lt_succ_of_lt (o.burns q hq)
    · rw [hn']; exact Nat.lt_succ_of_lt (o.saved q hq)
  | drop =>
    show Ok (if x.begun = true then (x, Su121.no (-16)) else if x.n = 1 then (x, Su121.no (-6)) else if x.fire + 1 = x.n then (x, Su121.no (-17)) else ({ x with tree := ⟨x.tree.up.dropLast⟩ }, Su121.num (x.n - 1) [])).1
    by_cases c1 : x.begun = true
    · rw [if_pos c1]; exact o
    rw [if_neg c1]
    by_cases c2 : x.n = 1
    · rw [if_pos c2]; exact o
    rw [if_neg c2]
    by_cases c3 : x.fire + 1 = x.n
    · rw [if_pos c3]; exact o
    rw [if_neg c3]
    have hl : x.tree.up.dropLast.length = x.tree.up.length - 1 := List.length_dropLast ..
    have hn' : ({ x with tree := ⟨x.tree.up.dropLast⟩ } : Abs).n = x.n - 1 := by
      show x.tree.up.dropLast.length + 1 = _
      rw [hl]
      omega
    have hf := o.fire
    have b1 : x.burns.length ≤ 1 ∧ x.saved = [] := by
      unfold Su121.Abs.begun at c1
      rw [Bool.or_eq_true, decide_eq_true_eq, bne_iff_ne, not_or, Classical.not_not] at c1
      exact ⟨by omega, c1.2⟩
    have bf : ∀ q ∈ x.burns, q = x.fire := fun q hq => by
      have h1 := b1.1
      have hm := o.lit
      cases e : x.burns with
      | nil => rw [e] at hq; cases hq
      | cons b r =>
        cases r with
        | nil =>
          rw [e] at hq hm
          rw [List.mem_singleton.mp hq, List.mem_singleton.mp hm]
        | cons _ _ => rw [e, List.length_cons, List.length_cons] at h1; omega
    refine ⟨fun i hi => ?_, ?_, ?_, o.each, fun q hq => ?_, o.lit, o.bnd, fun q hq => ?_, o.snd, o.used⟩
    · have hi' : i < x.tree.up.dropLast.length := hi
      rw [hl] at hi'
      show x.tree.up.dropLast.getD i 0 ≤ i
      rw [List.getD_eq_getElem?_getD, List.dropLast_eq_take, List.getElem?_take_of_lt (by omega), ← List.getD_eq_getElem?_getD]
      exact o.wf i (by omega)
    · rw [hn']; omega
    · rw [hn']; show x.fire < _; omega
    · rw [hn', bf q hq]; omega
    · have hq' : q ∈ x.saved := hq
      rw [b1.2] at hq'
      cases hq'
  | fire p =>
    show Ok (if x.isP p = false then (x, Su121.no (-2)) else (({ x with fire := p } : Abs).fresh, Su121.num x.fire [])).1
    by_cases c1 : x.isP p = false
    · rw [if_pos c1]; exact o
    rw [if_neg c1]
    have hp : p < x.n := by
      unfold Su121.Abs.isP at c1
      simpa using c1
    exact ⟨o.wf, o.n12, hp, o.each, fun q h => by rw [List.mem_singleton.mp h]; exact hp, List.mem_singleton.mpr rfl, List.nodup_cons.mpr ⟨List.not_mem_nil, List.nodup_nil⟩, fun p h => (List.not_mem_nil h).elim, List.nodup_nil, Nat.zero_le _⟩
  | each k =>
    show Ok (if k = 0 ∨ Su121.EACH < k then (x, Su121.no (-22)) else (({ x with each := k } : Abs).fresh, Su121.num x.each [])).1
    by_cases c1 : k = 0 ∨ Su121.EACH < k
    · rw [if_pos c1]; exact o
    rw [if_neg c1]
    have c1' : ¬ (k = 0 ∨ 2 < k) := c1
    exact ⟨o.wf, o.n12, o.fire, (by show k = 1 ∨ k = 2; omega), fun q h => by rw [List.mem_singleton.mp h]; exact o.fire, List.mem_singleton.mpr rfl, List.nodup_cons.mpr ⟨List.not_mem_nil, List.nodup_nil⟩, fun p h => (List.not_mem_nil h).elim, List.nodup_nil, Nat.zero_le _⟩
  | save p =>
    show Ok (if x.isP p = false then (x, Su121.no (-2)) else if x.burns.contains p = true then (x, Su121.no (-33)) else if x.saved.contains p = true then (x, Su121.no (-17)) else if x.each ≤ x.used then (x, Su121.no (-28)) else ({ x with saved := x.saved ++ [p], used := x.used + 1 }, Su121.num x.saved.length.succ [])).1
    by_cases c1 : x.isP p = false
    · rw [if_pos c1]; exact o
    rw [if_neg c1]
    by_cases c2 : x.burns.contains p = true
    · rw [if_pos c2]; exact o
    rw [if_neg c2]
    by_cases c3 : x.saved.contains p = true
    · rw [if_pos c3]; exact o
    rw [if_neg c3]
    by_cases c4 : x.each ≤ x.used
    · rw [if_pos c4]; exact o
    rw [if_neg c4]
    have hp : p < x.n := by
      unfold Su121.Abs.isP at c1
      simpa using c1
    have ns : p ∉ x.saved := by simpa using c3
    refine ⟨o.wf, o.n12, o.fire, o.each, o.burns, o.lit, o.bnd, fun q hq => ?_, ?_, ?_⟩
    · rcases List.mem_append.mp hq with h | h
      · exact o.saved q h
      · rw [List.mem_singleton.mp h]; exact hp
    · refine List.nodup_append.mpr ⟨o.snd, List.nodup_cons.mpr ⟨List.not_mem_nil, List.nodup_nil⟩, fun q hq r hr e => ?_⟩
      rw [List.mem_singleton.mp hr] at e
      subst e
      exact ns hq
    · show x.used + 1 ≤ x.each
      omega
  | turn => exact o.spread
  | again => exact o.fresh
  | run l =>
    show Ok (if l.any (fun p => !(x.isP p)) = true ∨ Su121.PLACES < l.length then (x, Su121.no (-22)) else (match x.fresh.run x.n l with
      | none => (x, Su121.no (-33))
      | some b => (x, Su121.num (x.n - b.burns.length) [b.burns.length]))).1
    split
    · exact o
    · split <;> exact o
  | kept l =>
    show Ok (if l.any (fun p => !(x.isP p)) = true ∨ Su121.PLACES < l.length then (x, Su121.no (-22)) else (x, Su121.num (x.kept l) [])).1
    split <;> exact o
  | size p =>
    show Ok (if x.isP p = false then (x, Su121.no (-2)) else (x, Su121.num (x.size p) [])).1
    split <;> exact o
  | deep p =>
    show Ok (if x.isP p = false then (x, Su121.no (-2)) else (x, Su121.num (x.deep p) [])).1
    split <;> exact o
  | _ => exact o
theorem ok_step {s : Option Abs} (o : OkO s) (c : Su121.Call) : OkO (Su121.step s c).1 := by
  cases s with
  | some x => exact ok_does o c
  | none => cases c <;> first | exact ok_one | exact trivial
end FS

set_option maxRecDepth 100000
set_option maxHeartbeats 4000000
namespace FS
open PySem PySem.Spec PyProof.Rows L2 Evl
open Su121 (Abs)
/-! # The ways: bodies -/
section
variable {L : Locs} {σ : L2.St} {H H1 : Hp} {te ta tb : TE} {tz : TS} {D : Ends}
/-- gives the ways | a list of numbers, new or not -/
def EvW (L : Locs) (te : TE) (σ : L2.St) (H : Hp) (up : List Nat) (f : Nat) : Prop := ∀ H1, Ex H H1 → ∀ Q : VK, (∀ w B o H2, Ex H1 H2 → WaysAt L.C_Ways H2 w B up f o → Q (.ref w) H2) → te σ H1 Q
def EvE (te : TE) (σ : L2.St) (H : Hp) (ns : List Nat) : Prop := ∀ H1, Ex H H1 → ∀ Q : VK, (∀ p H2, Ex H1 H2 → H2 p = some (nl ns) → Q (.ref p) H2) → te σ H1 Q
theorem ee_of_el {ns : List Nat} (h : EvL te σ H ((I ns).map V.int)) : EvE te σ H ns := fun H1 e Q q => h H1 e Q fun p H2 _ e2 h2 => q p H2 e2 h2
theorem q_asgW {i : Nat} {up : List Nat} {f : Nat} (h : EvW L te σ H up f) (k : ∀ w B o H1, Ex H H1 → WaysAt L.C_Ways H1 w B up f o → tz D (σ.set i (some (.ref w))) H1) : tSeq (tAsg te (gName i)) tz D σ H := h H (Ex.refl H) _ k
theorem q_asgE {i : Nat} {ns : List Nat} (h : EvE te σ H ns) (k : ∀ p H1, Ex H H1 → H1 p = some (nl ns) → tz D (σ.set i (some (.ref p))) H1) : tSeq (tAsg te (gName i)) tz D σ H := h H (Ex.refl H) _ k
theorem given_const (n : Nat) (v : V) : given n (fun _ => true) (fun _ => v) = List.replicate n v := by
  rw [given_all, List.map_const', List.length_range]
end
section
variable {K : PySem.W.Frag} {mg : Str → Option Value} {L : Locs}
theorem fs_ways {t d s o dx : Addr} : putF "order" (.ref o) (putF "sizes" (.ref s) (putF "depths" (.ref d) (putF "toward" (.ref t) []))) = wfs ⟨dx, t, d, s, o⟩ := by
  rfl
theorem rep_ints (n k : Nat) : List.replicate n (V.int (k : Int)) = (I (List.replicate n k)).map V.int := by
  unfold I
  rw [List.map_replicate, List.map_replicate]
theorem pure_Ways_init (T : Txt K mg L) (vs : List V) (H : Hp) (Q : VK) (E : XK) (h : sp_Ways_init K L vs H Q E) : t_Ways_init K L (En Q) (start N_Ways_init vs) H := by
  obtain ⟨p, dx, n, f, rfl, hn, hp, hd, k⟩ := h
  have c := T.cl_Ways
  have rep : ∀ (v : V) (H : Hp), EvL (tLc (iRng1 (tCons (tVar 1) tNil)) (gName 3) tYes (tC v) [3]) (start N_Ways_init [.ref p, .int (n : Int), .int (f : Int)]) H (List.replicate n v) := fun v H => by
    refine el_is (el_lcR1 (fun _ => true) (fun _ => v) (ea_cons (ev_var rfl) ea_nil) (by omega) (fun _ => rfl) (fun i H1 e1 hi H2 e2 Q q => q H2 (Ex.refl _)) fun i H1 e1 hi _ => ev_c) ?_
    rw [show ((n : Nat) : Int).toNat = n from rfl, given_const]
  refine q_fldL (rep .non H) (ev_var rfl) hp c T.a_Ways_toward (by show 0 < 1000; decide) fun at_ H1 nt e1 ht => ?_
  have tp : at_ ≠ p := fun z => by rw [z, hp] at nt; cases nt
  refine q_fldL (rep (.int 0) _) (ev_var rfl) upd_same c T.a_Ways_depths (by show 1 < 1000; decide) fun ad H2 nd e2 h2 => ?_
  have dp : ad ≠ p := fun z => by rw [z, upd_same] at nd; cases nd
  refine q_fldL (rep (.int 1) _) (ev_var rfl) upd_same c T.a_Ways_sizes (by show 2 < 1000; decide) fun as H3 ns e3 h3 => ?_
  have sp : as ≠ p := fun z => by rw [z, upd_same] at ns; cases ns
  refine s_fldL (xs := [V.int (f : Int)]) (el_lst (ea_cons (ev_var rfl) ea_nil) (by show 1 ≤ 100000; decide)) (ev_var rfl) upd_same c T.a_Ways_order (by show 3 < 1000; decide) fun ao H4 no e4 h4 => ?_
  have op : ao ≠ p := fun z => by rw [z, upd_same] at no; cases no
  have t2 : H2 at_ = _ := e2 _ _ ((upd_ne tp).trans ht)
  have t3 : H3 at_ = _ := e3 _ _ ((upd_ne tp).trans t2)
  have t4 : H4 at_ = _ := e4 _ _ ((upd_ne tp).trans t3)
  have d3 : H3 ad = _ := e3 _ _ ((upd_ne dp).trans h2)
  have d4 : H4 ad = _ := e4 _ _ ((upd_ne dp).trans d3)
  have s4 : H4 as = _ := e4 _ _ ((upd_ne sp).trans h3)
  have td : at_ ≠ ad := fun z => by rw [← z, upd_ne tp, ht] at nd; cases nd
  have ts : at_ ≠ as := fun z => by rw [← z, upd_ne tp, t2] at ns; cases ns
  have to : at_ ≠ ao := fun z => by rw [← z, upd_ne tp, t3] at no; cases no
  have ds : ad ≠ as := fun z => by rw [← z, upd_ne dp, h2] at ns; cases ns
  have do_ : ad ≠ ao := fun z => by rw [← z, upd_ne dp, d3] at no; cases no
  have so : as ≠ ao := fun z => by rw [← z, upd_ne sp, h3] at no; cases no
  have u := @NdefX.upd_none
  have fd : H ad = none := fresh_back e1 (u nd)
  have fs : H as = none := fresh_back e1 (u (fresh_back e2 (u ns)))
  have fo : H ao = none := fresh_back e1 (u (fresh_back e2 (u (fresh_back e3 (u no)))))
  rw [fs_ways (dx := dx)]
  refine k _ ⟨dx, at_, ad, as, ao⟩ ⟨upd_same, (upd_ne tp).trans t4, (upd_ne dp).trans (d4.trans ?_), (upd_ne sp).trans (s4.trans ?_), (upd_ne op).trans h4, td, ts, to, ds, do_, so⟩ (fun b o hb n => ?_) nt fd fs fo
  · exact congrArg (fun x => some (HO.lst x)) (rep_ints n 0)
  · exact congrArg (fun x => some (HO.lst x)) (rep_ints n 1)
  · exact (upd_ne n).trans (e4 _ _ ((upd_ne n).trans (e3 _ _ ((upd_ne n).trans (e2 _ _ ((upd_ne n).trans (e1 _ _ hb)))))))
theorem near_given {up : List Nat} (w : Wf up) {p : Nat} (hp : p < up.length + 1) :
    given (up.length + 1) (fun q => decide (p < q ∧ pa up q = p) || decide (q < p ∧ pa up p = q)) (fun q => .int (q : Int)) = (I ((⟨up⟩ : Su115.Abs).near p)).map V.int := by
  have key := fun q => near_iff (a := ⟨up⟩) w (p := p) (q := q) hp
  unfold given I
  rw [List.map_map]
  congr 1
  unfold Su115.Abs.near Su115.Abs.ps at key ⊢
  refine List.filter_congr fun q hq => ?_
  have kq := key q
  rw [List.mem_filter] at kq
  rw [Bool.eq_iff_iff, Bool.or_eq_true, decide_eq_true_eq, decide_eq_true_eq]
  exact ⟨fun h => (kq.mpr ⟨List.mem_range.mp hq, h⟩).2, fun h => (kq.mp ⟨hq, h⟩).2⟩
theorem pure_neighbours (T : Txt K mg L) (vs : List V) (H : Hp) (Q : VK) (E : XK) (h : sp_neighbours K L vs H Q E) : t_neighbours K L (En Q) (start N_neighbours vs) H := by
  obtain ⟨a, up, p, rfl, ha, w, n12, hp, k⟩ := h
  have hl := joinedV_len up
  refine s_retL (el_is (el_lcR1 (fun q => decide (p < q ∧ pa up q = p) || decide (q < p ∧ pa up p = q)) (fun q => .int (q : Int)) (ea_cons (ev_len (ev_var rfl) (sq_of ha)) ea_nil) (by omega) (fun _ => rfl) (fun q H1 e1 hq => ?_) (fun q H1 e1 hq _ => ev_var rfl)) ?_) k
  · have hq' : q < up.length + 1 := by omega
    have h1 := e1 _ _ ha
    refine et_or (et_test (ev_is (ev_op (ev_op (ev_var rfl) (ev_var rfl) (rv_ixL (sq_of h1) (atI_of (joined_at hq')))) (ev_var rfl) (rv_eq ?_)) (congrArg V.bl (joined_eq w hq'))))
      fun _ => et_test (ev_is (ev_op (ev_op (ev_var rfl) (ev_var rfl) (rv_ixL (sq_of h1) (atI_of (joined_at hp)))) (ev_var rfl) (rv_eq ?_)) (congrArg V.bl (joined_eq w hp)))
    · split <;> rfl
    · split <;> rfl
  · rw [hl, show (((up.length + 1 : Nat)) : Int).toNat = up.length + 1 from rfl]
    exact near_given w hp
/-- in a list of numbers: a place, or none -/
theorem inV_tow {up : List Nat} {f q : Nat} (l : List Nat) : inV (towV up f q) ((I l).map V.int) = (decide (q ≠ f) && l.contains (tow up f q)) := by
  unfold towV
  by_cases h : q = f
  · rw [if_pos h, decide_eq_false (by simpa using h), Bool.false_and]
    induction l with
    | nil => rfl
    | cons x l ih => exact ih
  · rw [if_neg h, decide_eq_true h, Bool.true_and]
    exact inV_I _ _
theorem towV_flat {up : List Nat} {f q : Nat} : flatV (towV up f q) = true := by
  unfold towV
  split <;> rfl
theorem kids_given {up : List Nat} {f n : Nat} (ps : List Nat) : given n (fun q => decide (q ≠ f) && ps.contains (tow up f q)) (fun q => .int (q : Int)) = (I (kids up n f ps)).map V.int := by
  unfold given I kids
  rw [List.map_map]
  rfl
theorem pure_further (T : Txt K mg L) (vs : List V) (H : Hp) (Q : VK) (E : XK) (h : sp_further K L vs H Q E) : t_further K L (En Q) (start N_further vs) H := by
  obtain ⟨w, B, up, f, o, a, ps, rfl, W, ha, k⟩ := h
  have n12 := W.n12
  have lt : (((List.range (up.length + 1)).map (towV up f)).length : Int) = ((up.length + 1 : Nat) : Int) := by rw [List.length_map, List.length_range]
  refine s_retL (el_is (el_lcR1 (fun q => decide (q ≠ f) && ps.contains (tow up f q)) (fun q => .int (q : Int)) (ea_cons (ev_len (ev_toward T W.g (ev_var rfl)) (sq_of W.g.tl)) ea_nil) (by omega) (fun _ => rfl) (fun q H1 e1 hq => ?_) (fun q H1 e1 hq _ => ev_var rfl)) ?_) k
  · have hq' : q < up.length + 1 := by omega
    have W1 := W.mono e1
    exact et_test (ev_is (ev_inL (ev_op (ev_toward T W1.g (ev_var rfl)) (ev_var rfl) (rv_ixL (sq_of W1.g.tl) (atI_of (range_map_at _ hq')))) (ev_var rfl) (sq_of (e1 _ _ ha)) towV_flat (flat_ints _)) (congrArg V.bl (inV_tow ps)))
  · rw [lt]
    exact kids_given ps
theorem spl_further {σ : L2.St} {w : Addr} {B : WAdr} {up : List Nat} {f : Nat} {o : List Nat} {a : Addr} {ps : List Nat} {H : Hp} (W : WaysAt L.C_Ways H w B up f o) (ha : H a = some (nl ps)) : SpL (sp_further K L) [.ref w, .ref a] H ((I (kids up (up.length + 1) f ps)).map V.int) :=
  fun H1 e Q q E => ⟨w, B, up, f, o, a, ps, rfl, W.mono e, e _ _ ha, q⟩
/-- a call whose last of two is a new list -/
theorem el_call2L {sp : Sp} {E : XK} {ta te : TE} {σ : L2.St} {H : Hp} {v : V} {xs ys : List V} (h1 : Ev ta σ H v) (h2 : EvL te σ H xs) (hs : ∀ p H1, Ex H H1 → H1 p = some (.lst xs) → SpL sp [v, .ref p] H1 ys) : EvL (tCall sp [] E (tCons ta (tCons te tNil))) σ H ys := fun H1 e Q q =>
  h1 H1 e _ fun H2 e2 => h2 H2 (e.trans e2) _ fun p H3 hp e3 h3 => hs p H3 ((e.trans e2).trans e3) h3 H3 (Ex.refl _) Q (fun p' H4 hp' e4 h4 => q p' H4 (fresh_back (e2.trans e3) hp') ((e2.trans e3).trans e4) h4) E
theorem pure_first_front (T : Txt K mg L) (vs : List V) (H : Hp) (Q : VK) (E : XK) (h : sp_first_front K L vs H Q E) : t_first_front K L (En Q) (start N_first_front vs) H := by
  obtain ⟨w, B, up, f, o, rfl, W, k⟩ := h
  refine s_retL (el_call2L (xs := (I [f]).map V.int) (ev_var rfl) (el_is (el_sl (ev_order T W.g (ev_var rfl)) (fun H1 e Q q => q H1 (Ex.refl _)) (eo_some ev_c) (sq_of W.g.ol)) ?_) fun p H1 e1 h1 => spl_further (σ := []) (W.mono e1) h1) k
  obtain ⟨r, e⟩ := W.ord.head
  rw [e]
  rfl
theorem pure_front_behind (T : Txt K mg L) (vs : List V) (H : Hp) (Q : VK) (E : XK) (h : sp_front_behind K L vs H Q E) : t_front_behind K L (En Q) (start N_front_behind vs) H := by
  obtain ⟨w, B, up, f, o, fa, xa, l, x, rfl, W, hf, hx, hl, k⟩ := h
  refine s_retL (el_call2L (xs := (I (out l x)).map V.int) (ev_var rfl) (el_is (el_lcFil (ns := I l) (fun z => !(x.contains z.toNat)) (fun z => .int z) (ev_var rfl) (sq_of hf) (by rw [I_len]; omega) (fun _ => rfl) (fun z H1 hz e1 => ?_) fun z H1 hz e1 _ => ev_var rfl) ?_) fun p H1 e1 h1 => spl_further (σ := []) (W.mono e1) h1) k
  · obtain ⟨q, hq, rfl⟩ := of_I hz
    exact et_test (ev_is (ev_niL (ev_var rfl) (ev_var rfl) (sq_of (e1 _ _ hx)) rfl (flat_ints _)) (by rw [inV_I]; rfl))
  · unfold out I
    rw [List.filter_map]
    rfl
end
end FS

set_option maxRecDepth 100000
set_option maxHeartbeats 4000000
namespace FS
open PySem PySem.Spec PyProof.Rows L2 Evl
open Su121 (Abs)
/-! # How the ways are made -/
/-- the ways so far: what's found -/
noncomputable def tlO (up : List Nat) (n f : Nat) (o : List Nat) : List V := (List.range n).map fun q => if q ∈ o ∧ q ≠ f then .int ((tow up f q : Nat) : Int) else .non
def dlO (up : List Nat) (n f : Nat) (o : List Nat) : List Nat := (List.range n).map fun q => if q ∈ o then dd up f q else 0
theorem map_range_congr {α : Type} {n : Nat} {g g' : Nat → α} (h : ∀ q, q < n → g q = g' q) : (List.range n).map g = (List.range n).map g' := List.map_congr_left fun q hq => h q (List.mem_range.mp hq)
theorem set_range {α : Type} {n q : Nat} {g : Nat → α} {v : α} : ((List.range n).map g).set q v = (List.range n).map fun r => if r = q then v else g r := by
  apply List.ext_getElem?
  intro i
  rw [List.getElem?_set, List.getElem?_map, List.getElem?_map, List.length_map, List.length_range]
  by_cases h : i < n
  · rw [List.getElem?_range h]
    by_cases e : q = i
    · subst e
      rw [if_pos rfl, if_pos h]
      show _ = some (if q = q then v else g q)
      rw [if_pos rfl]
    · rw [if_neg e]
      show some (g i) = some (if i = q then v else g i)
      rw [if_neg fun z => e z.symm]
  · rw [List.getElem?_eq_none (by rw [List.length_range]; omega)]
    by_cases e : q = i
    · rw [if_pos e, if_neg (by omega)]; rfl
    · rw [if_neg e]; rfl
theorem I_set (l : List Nat) (q v : Nat) : ((I l).map V.int).set q (.int (v : Int)) = (I (l.set q v)).map V.int := by
  unfold I
  rw [List.map_map, List.map_map, List.map_set]
  rfl
section
variable {up : List Nat} {n f : Nat} {o : List Nat}
theorem tlO_start : tlO up n f [f] = List.replicate n .non := by
  unfold tlO
  rw [show List.replicate n V.non = (List.range n).map fun _ => V.non by rw [List.map_const', List.length_range]]
  exact map_range_congr fun q _ => if_neg fun ⟨h1, h2⟩ => h2 (List.mem_singleton.mp h1)
theorem dlO_start : dlO up n f [f] = List.replicate n 0 := by
  unfold dlO
  rw [show List.replicate n 0 = (List.range n).map fun _ => 0 by rw [List.map_const', List.length_range]]
  refine map_range_congr fun q _ => ?_
  by_cases h : q ∈ [f]
  · rw [if_pos h, List.mem_singleton.mp h, dd_self]
  · rw [if_neg h]
theorem tlO_snoc {q p : Nat} (ne : q ≠ f) (ht : tow up f q = p) : (tlO up n f o).set q (.int (p : Int)) = tlO up n f (o ++ [q]) := by
  unfold tlO
  rw [set_range]
  refine map_range_congr fun r _ => ?_
  by_cases e : r = q
  · subst e
    rw [if_pos rfl, if_pos ⟨List.mem_append_right _ (List.mem_singleton.mpr rfl), ne⟩, ht]
  · rw [if_neg e]
    have : r ∈ o ++ [q] ↔ r ∈ o := by
      rw [List.mem_append, List.mem_singleton]
      exact ⟨fun h => h.resolve_right e, .inl⟩
    simp only [this]
theorem dlO_snoc {q p : Nat} (hd : dd up f q = dd up f p + 1) : (dlO up n f o).set q (dd up f p + 1) = dlO up n f (o ++ [q]) := by
  unfold dlO
  rw [set_range]
  refine map_range_congr fun r _ => ?_
  by_cases e : r = q
  · subst e
    rw [if_pos rfl, if_pos (List.mem_append_right _ (List.mem_singleton.mpr rfl)), hd]
  · rw [if_neg e]
    have : r ∈ o ++ [q] ↔ r ∈ o := by
      rw [List.mem_append, List.mem_singleton]
      exact ⟨fun h => h.resolve_right e, .inl⟩
    simp only [this]
theorem tlO_all (h : ∀ q, q < n → q ∈ o) : tlO up n f o = (List.range n).map (towV up f) := map_range_congr fun q hq => by
  unfold towV
  by_cases e : q = f
  · rw [if_pos e, if_neg fun z => z.2 e]
  · rw [if_neg e, if_pos ⟨h q hq, e⟩]
theorem dlO_all (h : ∀ q, q < n → q ∈ o) : dlO up n f o = (List.range n).map (dd up f) := map_range_congr fun q hq => if_pos (h q hq)
/-- the sizes so far -/
noncomputable def slO (up : List Nat) (n f : Nat) (post : List Nat) : List Nat := (List.range n).map (acc up n f post)
theorem slO_start : slO up n f [] = List.replicate n 1 := by
  unfold slO
  rw [show List.replicate n 1 = (List.range n).map fun _ => 1 by rw [List.map_const', List.length_range]]
  exact map_range_congr fun q _ => acc_nil q
theorem slO_cons {p : Nat} {post : List Nat} : (slO up n f post).set (tow up f p) (acc up n f post (tow up f p) + sz up n f p) = slO up n f (p :: post) := by
  unfold slO
  rw [set_range]
  refine map_range_congr fun r _ => ?_
  rw [acc_cons]
  by_cases e : r = tow up f p
  · subst e
    rw [if_pos rfl, if_pos rfl]
  · rw [if_neg e, if_neg fun z => e z.symm]
    rfl
end
section
variable {C : Addr} {H : Hp} {w : Addr} {B : WAdr} {tl : List V} {dl sl ol : List Nat}
theorem WG.tw (g : WG C H w B tl dl sl ol) : B.t ≠ w := ne_of g.tl g.ins (by intro z; cases z)
theorem WG.dw (g : WG C H w B tl dl sl ol) : B.d ≠ w := ne_of g.dl g.ins (by intro z; cases z)
theorem WG.sw (g : WG C H w B tl dl sl ol) : B.s ≠ w := ne_of g.sl g.ins (by intro z; cases z)
theorem WG.ow (g : WG C H w B tl dl sl ol) : B.o ≠ w := ne_of g.ol g.ins (by intro z; cases z)
theorem WG.putT (g : WG C H w B tl dl sl ol) (xs : List V) : WG C (upd H B.t (.lst xs)) w B xs dl sl ol :=
  ⟨(upd_ne g.tw.symm).trans g.ins, upd_same, (upd_ne g.td.symm).trans g.dl, (upd_ne g.ts.symm).trans g.sl, (upd_ne g.to.symm).trans g.ol, g.td, g.ts, g.to, g.ds, g.do_, g.so⟩
theorem WG.putD (g : WG C H w B tl dl sl ol) (ns : List Nat) : WG C (upd H B.d (nl ns)) w B tl ns sl ol :=
  ⟨(upd_ne g.dw.symm).trans g.ins, (upd_ne g.td).trans g.tl, upd_same, (upd_ne g.ds.symm).trans g.sl, (upd_ne g.do_.symm).trans g.ol, g.td, g.ts, g.to, g.ds, g.do_, g.so⟩
theorem WG.putS (g : WG C H w B tl dl sl ol) (ns : List Nat) : WG C (upd H B.s (nl ns)) w B tl dl ns ol :=
  ⟨(upd_ne g.sw.symm).trans g.ins, (upd_ne g.ts).trans g.tl, (upd_ne g.ds).trans g.dl, upd_same, (upd_ne g.so.symm).trans g.ol, g.td, g.ts, g.to, g.ds, g.do_, g.so⟩
theorem WG.putO (g : WG C H w B tl dl sl ol) (ns : List Nat) : WG C (upd H B.o (nl ns)) w B tl dl sl ns :=
  ⟨(upd_ne g.ow.symm).trans g.ins, (upd_ne g.to).trans g.tl, (upd_ne g.do_).trans g.dl, (upd_ne g.so).trans g.sl, upd_same, g.td, g.ts, g.to, g.ds, g.do_, g.so⟩
end
section
variable {K : PySem.W.Frag} {mg : Str → Option Value} {L : Locs} {D : Ends} {σ : L2.St} {H : Hp} {tu tz : TS}
/-- for x in reversed(a new list) -/
theorem q_forRev {te : TE} {xs : List V} {j : Nat} (h : EvL te σ H xs) (Pv : Addr → Nat → L2.St → Hp → Prop) (h0 : ∀ p H1, H p = none → Ex H H1 → H1 p = some (.lst xs) → Pv p 0 σ H1) (hq : ∀ p i σ H, Pv p i σ H → SqL K H p xs)
    (hs : ∀ (p : Addr) (i : Nat) (x : V) (σ : L2.St) (H : Hp), i < xs.length → xs[xs.length - 1 - i]? = some x → Pv p i σ H → tu { D with nx := Pv p (i + 1), ct := Pv p (i + 1), bk := tz D } (σ.set j (some x)) H) (hd : ∀ p σ H, Pv p xs.length σ H → tz D σ H) :
    tSeq (tFor (iRev K (tCons te tNil)) (gName j) tu) tz D σ H := h H (Ex.refl H) _ fun p H1 hp e1 h1 =>
  ⟨p, xs, rfl, sq_of h1, RT.for_Itv (D := { D with nx := tz D }) (Pv p) (h0 p H1 hp e1 h1) (hq p) (hs p) (hd p)⟩
/-- xs[i] += e -/
theorem s_augSub {to ti te : TE} {l : Addr} {ns : List Nat} {j a b : Nat} (hl : H l = some (nl ns)) (ho : Ev to σ H (.ref l)) (hi : Ev ti σ H (.int (j : Int))) (hj : ns[j]? = some a) (he : Ev te σ H (.int (b : Int))) (k : ∀ H1, Ex H H1 → D.nx σ (upd H1 l (nl (ns.set j (a + b))))) :
    tAugS to ti te (rIxL K) (ipI fun i j => i + j) rSetL D σ H := ho H (Ex.refl H) _ fun H1 e1 => hi H1 e1 _ fun H2 e2 =>
  ⟨l, (I ns).map V.int, (j : Int), .int (a : Int), rfl, rfl, sq_of (e2 _ _ (e1 _ _ hl)), atI_nat (nl_at hj), he H2 (e1.trans e2) _ fun H3 e3 =>
    ⟨(a : Int), (b : Int), rfl, rfl, l, (I ns).map V.int, (j : Int), j, rfl, rfl, e3 _ _ (e2 _ _ (e1 _ _ hl)), ixN_nat (by rw [List.length_map, I_len]; exact (List.getElem?_eq_some_iff.mp hj).1), by
      have e : ((I ns).map V.int).set j (.int ((a : Int) + (b : Int))) = (I (ns.set j (a + b))).map V.int := by
        rw [← I_set]
        rfl
      rw [e]
      exact k H3 ((e1.trans e2).trans e3)⟩⟩
/-- x = C(e, ..) -/
theorem q_make {C : Addr} {sp : Sp} {dvs vs : List V} {E : XK} {ts : TA} {i : Nat} (h : EvA ts σ H vs) (k : ∀ H1, Ex H H1 → ∀ x dx, H1 x = none → H1 dx = none → dx ≠ x → sp (.ref x :: (vs ++ dvs)) (upd (upd H1 dx (.own x)) x (.ins C dx [])) (fun v H2 => v = .non ∧ tz D (σ.set i (some (.ref x))) H2) E) :
    tSeq (tAsg (tMake C sp dvs E ts) (gName i)) tz D σ H := h H (Ex.refl H) _ k
theorem cut_tail (v : V) (xs : List V) : cutV (v :: xs) (some 1) none = xs := by
  unfold cutV
  rw [show (some (1 : Int)) = some ((1 : Nat) : Int) from rfl, HT.sIx_nat]
  have e : min 1 (v :: xs).length = 1 := by rw [List.length_cons]; omega
  rw [e]
  show (xs.take ((v :: xs).length - 1)) = xs
  rw [List.length_cons, Nat.add_sub_cancel, List.take_length]
theorem take_filter_snoc {l : List Nat} {i q : Nat} {P : Nat → Bool} (h : l[i]? = some q) : (l.take (i + 1)).filter P = (l.take i).filter P ++ (if P q = true then [q] else []) := by
  rw [take_at h, List.filter_append]
  congr 1
  by_cases c : P q = true
  · rw [if_pos c, List.filter_cons, if_pos c]; rfl
  · rw [if_neg c, List.filter_cons, if_neg c]; rfl
theorem pure_ways_to (T : Txt K mg L) (vs : List V) (H : Hp) (Q : VK) (E : XK) (h : sp_ways_to K L vs H Q E) : t_ways_to K L (En Q) (start N_ways_to vs) H := by
  obtain ⟨a, up, f, rfl, ha, wf, n12, hf, k⟩ := h
  have hjl := joinedV_len up
  -- ways = Ways(len(joined), origin)
  refine q_make (ea_cons (ev_len (K := K) (ev_var rfl) (sq_of ha)) (ea_cons (ev_var rfl) ea_nil)) fun H1 e1 w dx nw ndx ne => ⟨w, dx, up.length + 1, f, by rw [hjl]; rfl, n12, upd_same, (upd_ne ne).trans upd_same, fun H2 B g keep nt nd ns no => ⟨rfl, ?_⟩⟩
  have u := @NdefX.upd_none
  have un : ∀ {b : Addr}, upd (upd H1 dx (.own w)) w (.ins L.C_Ways dx []) b = none → H b = none := fun q => fresh_back e1 (u (u q))
  have wt := un nt
  have wd := un nd
  have ws := un ns
  have wo := un no
  have ex2 : Ex H H2 := fun b o hb => by
    have n1 := ne_of_none (e1 _ _ hb) nw
    exact keep b o ((upd_ne n1).trans ((upd_ne (ne_of_none (e1 _ _ hb) ndx)).trans (e1 _ _ hb))) n1
  rw [show (List.replicate (up.length + 1) V.non) = tlO up (up.length + 1) f [f] from tlO_start.symm, show List.replicate (up.length + 1) 0 = dlO up (up.length + 1) f [f] from dlO_start.symm] at g
  -- at = 0; while at < len(ways.order): ..
  refine q_asg ev_c fun H3 e3 => ?_
  refine q_while (fun m σ' H' => ∃ o at_ v4 v5, m = 12 - at_ ∧ σ' = [some (.ref a), some (.int (f : Int)), some (.ref w), some (.int ((at_ : Nat) : Int)), v4, v5] ∧ Ex H H' ∧ Bfs up (up.length + 1) f o at_ ∧
      WG L.C_Ways H' w B (tlO up (up.length + 1) f o) (dlO up (up.length + 1) f o) (List.replicate (up.length + 1) 1) o) 12
    ⟨[f], 0, none, none, rfl, rfl, ex2.trans e3, bfs_start hf, g.mono e3⟩ ?_
  rintro m σ' H' ⟨o, at_, v4, v5, rfl, rfl, ex, bf, g⟩
  have ol := bf.len
  refine ⟨_, et_test (ev_op (ev_var rfl) (ev_len (ev_order T g (ev_var rfl)) (sq_of g.ol)) rv_I0), fun c H4 e4 => ?_, fun c H4 e4 => ?_⟩
  · rw [decide_eq_true_eq, List.length_map, I_len] at c
    have al : at_ < o.length := by omega
    refine ⟨fun σ2 H2 => ∃ o v4 v5, σ2 = [some (.ref a), some (.int (f : Int)), some (.ref w), some (.int ((at_ + 1 : Nat) : Int)), v4, v5] ∧ Ex H H2 ∧ Bfs up (up.length + 1) f o (at_ + 1) ∧
        WG L.C_Ways H2 w B (tlO up (up.length + 1) f o) (dlO up (up.length + 1) f o) (List.replicate (up.length + 1) 1) o, fun σ2 H2 ⟨o2, v4, v5, h1, h2, h3, h4⟩ => ⟨12 - (at_ + 1), by omega, o2, at_ + 1, v4, v5, rfl, h1, h2, h3, h4⟩, ?_⟩
    have hp := List.getElem?_eq_getElem al
    generalize o[at_] = p at hp
    have po : p ∈ o := List.mem_of_getElem? hp
    have pn := bf.pl.lt p po
    have pn' : p < (⟨up⟩ : Su115.Abs).n := pn
    have g4 := g.mono e4
    refine q_asg (ev_op (ev_order T g4 (ev_var rfl)) (ev_var rfl) (rv_ixL (sq_of g4.ol) (atI_nat (nl_at hp)))) fun H5 e5 => ?_
    have ex5 := ex.trans (e4.trans e5)
    refine q_forNLn (xs := (I ((⟨up⟩ : Su115.Abs).near p)).map V.int) (el_call (ea_cons (ev_var rfl) (ea_cons (ev_var rfl) ea_nil)) fun H1 e Q q E => ⟨a, up, p, rfl, e _ _ (ex5 _ _ ha), wf, n12, pn, q⟩)
      (fun pA i σ' H' => ∃ v5, σ' = [some (.ref a), some (.int (f : Int)), some (.ref w), some (.int ((at_ : Nat) : Int)), some (.int (p : Int)), v5] ∧ Ex H H' ∧ H' pA = some (nl ((⟨up⟩ : Su115.Abs).near p)) ∧ pA ≠ B.t ∧ pA ≠ B.d ∧ pA ≠ B.o ∧
        WG L.C_Ways H' w B (tlO up (up.length + 1) f (o ++ (((⟨up⟩ : Su115.Abs).near p).take i).filter (fun q => decide (p = f) || decide (q ≠ tow up f p))))
          (dlO up (up.length + 1) f (o ++ (((⟨up⟩ : Su115.Abs).near p).take i).filter (fun q => decide (p = f) || decide (q ≠ tow up f p)))) (List.replicate (up.length + 1) 1) (o ++ (((⟨up⟩ : Su115.Abs).near p).take i).filter (fun q => decide (p = f) || decide (q ≠ tow up f p))))
      (fun pA H6 np e6 h6 => ?_) (fun pA i σ' H' hi ⟨v5, h1, h2, h3, _⟩ => sq_of h3) (fun pA i x σ' H' hx ⟨v5, h1, ex6, hA, n1, n2, n3, g6⟩ => ?_) (fun pA σ' H' ⟨v5, h1, ex6, hA, n1, n2, n3, g6⟩ => ?_)
    · have g5 := (g4.mono e5)
      refine ⟨v5, rfl, ex5.trans e6, h6, fun z => ?_, fun z => ?_, fun z => ?_, ?_⟩
      · rw [z, g5.tl] at np; cases np
      · rw [z, g5.dl] at np; cases np
      · rw [z, g5.ol] at np; cases np
      · rw [List.take_zero, List.filter_nil, List.append_nil]
        exact g5.mono e6
    · -- one neighbour
      subst h1
      obtain ⟨z, hz, rfl⟩ := get_map_int hx
      have hz0 := hz
      unfold FS.I at hz
      rw [List.getElem?_map] at hz
      obtain ⟨q, hq, rfl⟩ : ∃ q, ((⟨up⟩ : Su115.Abs).near p)[i]? = some q ∧ z = (q : Int) := by
        cases e : ((⟨up⟩ : Su115.Abs).near p)[i]? with
        | none => rw [e] at hz; cases hz
        | some q => rw [e] at hz; exact ⟨q, rfl, (Option.some.inj hz).symm⟩
      have qm := List.mem_of_getElem? hq
      have qn : q < up.length + 1 := ((near_iff (a := ⟨up⟩) wf pn').mp qm).1
      generalize ho' : o ++ (((⟨up⟩ : Su115.Abs).near p).take i).filter (fun q => decide (p = f) || decide (q ≠ tow up f p)) = o' at g6
      have po' : p ∈ o' := by rw [← ho']; exact List.mem_append_left _ po
      have ts := take_filter_snoc (P := fun q => decide (p = f) || decide (q ≠ tow up f p)) hq
      have test : (!decide (V.int (q : Int) = if p ∈ o' ∧ p ≠ f then V.int ((tow up f p : Nat) : Int) else V.non)) = (decide (p = f) || decide (q ≠ tow up f p)) := by
        by_cases e : p = f
        · rw [if_neg fun z => z.2 e, decide_eq_true e, Bool.true_or]
          rfl
        · rw [if_pos ⟨po', e⟩, decide_eq_false e, Bool.false_or, ← decide_not]
          refine decide_eq_decide.mpr ⟨fun h z => h (by rw [z]), fun h z => h ?_⟩
          injection z with z
          omega
      refine s_when (et_is (et_test (ev_op (ev_var rfl) (ev_op (ev_toward T g6 (ev_var rfl)) (ev_var rfl) (rv_ixL (sq_of g6.tl) (atI_nat (range_map_at _ pn)))) (rv_ne ?_))) test) (fun c H7 e7 => ?_) (fun c H7 e7 => ?_)
      · split <;> rfl
      · -- it's further
        have qk : q ∈ kids up (up.length + 1) f [p] := (kid_iff (a := ⟨up⟩) (f := f) wf pn').mp ⟨qm, by simpa using c⟩
        obtain ⟨_, qf, qt⟩ := mem_kids.mp qk
        have qt := List.mem_singleton.mp qt
        have qd : dd up f q = dd up f p + 1 := by
          have := tow_dep (up := up) qf
          rw [qt] at this
          omega
        have g7 := g6.mono e7
        refine q_setL (v := .int (p : Int)) g7.tl (ev_var rfl) (ev_toward T g7 (ev_var rfl)) (ev_var rfl) (by unfold tlO; rw [List.length_map, List.length_range]; exact qn) fun H8 e8 => ?_
        have g8 : WG L.C_Ways _ w B (tlO up (up.length + 1) f (o' ++ [q])) _ _ _ := tlO_snoc (n := up.length + 1) (o := o') qf qt ▸ (g7.mono e8).putT ((tlO up (up.length + 1) f o').set q (.int (p : Int)))
        rw [tlO_snoc qf qt]
        have dp : (dlO up (up.length + 1) f o')[p]? = some (dd up f p) := by
          refine (range_map_at _ pn).trans ?_
          rw [if_pos po']
        refine q_setL (v := .int ((dd up f p + 1 : Nat) : Int)) g8.dl (ev_op (ev_op (ev_depths T g8 (ev_var rfl)) (ev_var rfl) (rv_ixL (sq_of g8.dl) (atI_nat (nl_at dp)))) ev_c rv_I0) (ev_depths T g8 (ev_var rfl)) (ev_var rfl) (by rw [List.length_map, I_len]; unfold dlO; rw [List.length_map, List.length_range]; exact qn) fun H9 e9 => ?_
        rw [I_set, dlO_snoc qd]
        have g9 : WG L.C_Ways _ w B _ (dlO up (up.length + 1) f (o' ++ [q])) _ _ := (g8.mono e9).putD _
        refine s_app g9.ol (ev_order T g9 (ev_var rfl)) (ev_var rfl) ?_ fun H10 e10 => ?_
        · rw [List.length_map, I_len, ← ho', List.length_append]
          have l1 := List.length_filter_le (fun q => decide (p = f) || decide (q ≠ tow up f p)) (((⟨up⟩ : Su115.Abs).near p).take i)
          have l2 : (((⟨up⟩ : Su115.Abs).near p).take i).length ≤ up.length + 1 := by
            have l3 : ((⟨up⟩ : Su115.Abs).near p).length ≤ up.length + 1 := by
              have := List.length_filter_le (fun q => (decide (p < q) && up.getD (q - 1) 0 == p) || (decide (q < p) && up.getD (p - 1) 0 == q)) (List.range (up.length + 1))
              rw [List.length_range] at this
              exact this
            exact Nat.le_trans (List.take_sublist _ _).length_le l3
          omega
        · have es : ((I o').map V.int) ++ [V.int (q : Int)] = (I (o' ++ [q])).map V.int := by
            rw [I_append, List.map_append]
            rfl
          rw [es]
          have e : o ++ (((⟨up⟩ : Su115.Abs).near p).take (i + 1)).filter (fun q => decide (p = f) || decide (q ≠ tow up f p)) = o' ++ [q] := by
            rw [ts, if_pos c, ← List.append_assoc, ho']
          refine ⟨_, rfl, (((((ex6.trans e7).trans e8).mut wt).trans e9).mut wd).trans e10 |>.mut wo, ?_, n1, n2, n3, ?_⟩
          · exact (upd_ne n3).trans (e10 _ _ ((upd_ne n2).trans (e9 _ _ ((upd_ne n1).trans (e8 _ _ (e7 _ _ hA))))))
          · rw [e]
            exact (g9.mono e10).putO _
      · -- it's where p came from
        have e : o ++ (((⟨up⟩ : Su115.Abs).near p).take (i + 1)).filter (fun q => decide (p = f) || decide (q ≠ tow up f p)) = o' := by
          rw [ts, if_neg (by rw [c]; decide), List.append_nil, ho']
        refine ⟨_, rfl, ex6.trans e7, e7 _ _ hA, n1, n2, n3, ?_⟩
        rw [e]
        exact g6.mono e7
    · subst h1
      rw [List.length_map, I_len, List.take_length, near_filter wf pn'] at g6
      refine s_aug rfl ev_c fun H7 e7 => ⟨_, _, _, rfl, ex6.trans e7, bfs_step hf bf hp, g6.mono e7⟩
  · rw [decide_eq_false_iff_not, List.length_map, I_len] at c
    have al := bf.al
    have od := bf.ord hf (by omega)
    have g4 := g.mono e4
    rw [tlO_all od.all, dlO_all od.all, show List.replicate (up.length + 1) 1 = slO up (up.length + 1) f [] from slO_start.symm] at g4
    obtain ⟨r, hr⟩ := od.head
    -- for p in reversed(ways.order[1:]): ..
    refine q_forRev (xs := (I r).map V.int) (el_is (el_sl (ev_order T g4 (ev_var rfl)) (eo_some ev_c) (fun H1 e Q q => q H1 (Ex.refl _)) (sq_of g4.ol)) ?_)
      (fun pA i σ' H' => ∃ v4, σ' = [some (.ref a), some (.int (f : Int)), some (.ref w), some (.int ((at_ : Nat) : Int)), v4, v5] ∧ Ex H H' ∧ H' pA = some (nl r) ∧ pA ≠ B.s ∧
        WG L.C_Ways H' w B ((List.range (up.length + 1)).map (towV up f)) ((List.range (up.length + 1)).map (dd up f)) (slO up (up.length + 1) f (r.drop (r.length - i))) o)
      (fun pA H5 np e5 h5 => ?_) (fun pA i σ' H' ⟨v4, h1, h2, h3, _⟩ => sq_of h3) (fun pA i x σ' H' hi hx ⟨v4, h1, ex6, hA, n1, g6⟩ => ?_) (fun pA σ' H' ⟨v4, h1, ex6, hA, n1, g6⟩ => ?_)
    · rw [hr]
      exact cut_tail _ _
    · refine ⟨v4, rfl, (ex.trans e4).trans e5, h5, (fun z => by rw [z, g4.sl] at np; cases np), ?_⟩
      rw [Nat.sub_zero, List.drop_length]
      exact g4.mono e5
    · subst h1
      rw [List.length_map, I_len] at hi hx
      obtain ⟨z, hz, rfl⟩ := get_map_int hx
      unfold FS.I at hz
      rw [List.getElem?_map] at hz
      obtain ⟨p, hp, rfl⟩ : ∃ p, r[r.length - 1 - i]? = some p ∧ z = (p : Int) := by
        cases e : r[r.length - 1 - i]? with
        | none => rw [e] at hz; cases hz
        | some p => rw [e] at hz; exact ⟨p, rfl, (Option.some.inj hz).symm⟩
      have pr : p ∈ r := List.mem_of_getElem? hp
      have po : p ∈ o := by rw [hr]; exact List.mem_cons_of_mem _ pr
      have pn := od.pl.lt p po
      have nd := od.pl.nd
      rw [hr, List.nodup_cons] at nd
      have pf : p ≠ f := fun z => nd.1 (z ▸ pr)
      have tn := tow_lt (up := up) pf hf pn
      have hdr : r.drop (r.length - (i + 1)) = p :: r.drop (r.length - i) := by
        have il : r.length - 1 - i < r.length := by omega
        rw [show r.length - (i + 1) = r.length - 1 - i by omega, List.drop_eq_getElem_cons il, show r.length - 1 - i + 1 = r.length - i by omega]
        congr 1
        exact (List.getElem?_eq_some_iff.mp hp).2
      have sub : ∀ c ∈ r.drop (r.length - i), c ∈ r := fun c hc => List.mem_of_mem_drop hc
      have sp : acc up (up.length + 1) f (r.drop (r.length - i)) p = sz up (up.length + 1) f p := acc_is hf pn (nd.2.sublist (List.drop_sublist _ _)) (fun c hc => ⟨od.pl.lt c (by rw [hr]; exact List.mem_cons_of_mem _ (sub c hc)), fun z => nd.1 (z ▸ sub c hc)⟩)
        (od.kids_behind (pre := f :: r.take (r.length - (i + 1))) (by rw [List.cons_append, ← hdr, List.take_append_drop]; exact hr))
      have tv : towV up f p = .int ((tow up f p : Nat) : Int) := if_neg pf
      refine s_augSub (ns := slO up (up.length + 1) f (r.drop (r.length - i))) (j := tow up f p) (a := acc up (up.length + 1) f (r.drop (r.length - i)) (tow up f p)) (b := sz up (up.length + 1) f p) g6.sl (ev_sizes T g6 (ev_var rfl))
        (ev_op (ev_toward T g6 (ev_var rfl)) (ev_var rfl) (rv_ixL (sq_of g6.tl) (atI_nat ((range_map_at _ pn).trans (congrArg some tv))))) (range_map_at _ tn)
        (ev_op (ev_sizes T g6 (ev_var rfl)) (ev_var rfl) (rv_ixL (sq_of g6.sl) (atI_nat (nl_at ((range_map_at _ pn).trans (congrArg some sp)))))) fun H7 e7 => ?_
      refine ⟨_, rfl, (ex6.trans e7).mut ws, (upd_ne n1).trans (e7 _ _ hA), n1, ?_⟩
      rw [hdr, ← slO_cons]
      exact (g6.mono e7).putS _
    · subst h1
      rw [List.length_map, I_len, Nat.sub_self, List.drop_zero] at g6
      refine s_ret (ev_var rfl) fun H7 e7 => k w B o H7 (ex6.trans e7) ⟨?_, od, n12⟩
      have es : slO up (up.length + 1) f r = (List.range (up.length + 1)).map (sz up (up.length + 1) f) := map_range_congr fun q hq => by
        have nd := od.pl.nd
        rw [hr, List.nodup_cons] at nd
        refine acc_is hf hq nd.2 (fun c hc => ⟨od.pl.lt c (by rw [hr]; exact List.mem_cons_of_mem _ hc), fun z => nd.1 (z ▸ hc)⟩) fun c hc => ?_
        obtain ⟨c1, c2, c3⟩ := mem_kids.mp hc
        have := od.all c c1
        rw [hr] at this
        exact (List.mem_cons.mp this).resolve_left c2
      rw [← es]
      exact g6.mono e7
end
end FS

set_option maxRecDepth 100000
set_option maxHeartbeats 4000000
namespace FS
open PySem PySem.Spec PyProof.Rows L2 Evl
open Su121 (Abs some_)
/-! # What lies beyond; what may be chosen -/
def keysD (l : List Nat) : List (L2.Key × V) := l.map fun q => ((.inl ((q : Nat) : Int) : L2.Key), V.bl true)
theorem keysD_val (q : Nat) : ∀ l : List Nat, (valV (keysD l) (.inl (q : Int))).isSome = l.contains q
  | [] => rfl
  | x :: l => by
    have ih := keysD_val q l
    by_cases h : x = q
    · subst h
      rw [show keysD (x :: l) = ((.inl ((x : Nat) : Int) : L2.Key), V.bl true) :: keysD l from rfl, valV_pos rfl]
      simp
    · rw [show keysD (x :: l) = ((.inl ((x : Nat) : Int) : L2.Key), V.bl true) :: keysD l from rfl, valV_neg (fun z => h (by injection z with z; omega)), ih]
      have : q ≠ x := fun z => h z.symm
      simp [this]
section
variable {K : PySem.W.Frag} {mg : Str → Option Value} {L : Locs} {D : Ends} {σ : L2.St} {H : Hp} {tu tz : TS} {te ta tb : TE}
theorem ev_dinN {d : Addr} {kvs : List (L2.Key × V)} {up : List Nat} {f p : Nat} (h : Ev ta σ H (towV up f p)) (hd : Ev tb σ H (.ref d)) (hk : H d = some (.dK kvs)) : Ev (tDInN ta tb) σ H (.bl (decide (p ≠ f) && (valV kvs (.inl ((tow up f p : Nat) : Int))).isSome)) := fun H1 e Q q =>
  h H1 e _ fun H2 e2 => hd H2 (e.trans e2) _ fun H3 e3 => by
    have q3 := q H3 (e2.trans e3)
    have k3 := e3 _ _ (e2 _ _ (e _ _ hk))
    unfold towV
    by_cases c : p = f
    · rw [if_pos c]
      rw [decide_eq_false (fun z => z c), Bool.false_and] at q3
      exact .inr ⟨d, kvs, rfl, rfl, .inl k3, q3⟩
    · rw [if_neg c]
      rw [decide_eq_true c, Bool.true_and] at q3
      exact .inl ⟨d, _, rfl, DGet.k (k := .inl ((tow up f p : Nat) : Int)) k3, q3⟩
theorem pure_count_beyond (T : Txt K mg L) (vs : List V) (H : Hp) (Q : VK) (E : XK) (h : sp_count_beyond K L vs H Q E) : t_count_beyond K L (En Q) (start N_count_beyond vs) H := by
  obtain ⟨w, B, up, f, o, a, ps, rfl, W, ha, k⟩ := h
  intro d nd
  have e0 : Ex H (upd H d (.dK [])) := Ex.new nd
  have W0 := W.mono e0
  have ol : o.length ≤ 12 := by
    have := W.ord.perm.length_eq
    rw [List.length_range] at this
    have := W.n12
    omega
  refine q_forLn (xs := (I o).map V.int) (ev_order T W0.g (ev_var rfl)) (sq_of W0.g.ol)
    (fun i σ' H' => ∃ v3, σ' = [some (.ref w), some (.ref a), some (.ref d), v3] ∧ Ex H H' ∧ H' d = some (.dK (keysD ((o.take i).filter (byd up f ps))))) (fun H1 e1 => ⟨none, rfl, e0.trans e1, e1 _ _ upd_same⟩)
    (fun i σ' H' _ ⟨v3, _, e1, _⟩ => sq_of (W.mono e1).g.ol) (fun i x σ' H' hx ⟨v3, h1, e1, hd⟩ => ?_) (fun σ' H' ⟨v3, h1, e1, hd⟩ => ?_)
  · subst h1
    obtain ⟨z, hz, rfl⟩ := get_map_int hx
    unfold FS.I at hz
    rw [List.getElem?_map] at hz
    obtain ⟨p, hp, rfl⟩ : ∃ p, o[i]? = some p ∧ z = (p : Int) := by
      cases e : o[i]? with
      | none => rw [e] at hz; cases hz
      | some p => rw [e] at hz; exact ⟨p, rfl, (Option.some.inj hz).symm⟩
    have il := (List.getElem?_eq_some_iff.mp hp).1
    have pn := W.ord.pl.lt p (List.mem_of_getElem? hp)
    have W1 := W.mono e1
    have eo : o = o.take i ++ p :: o.drop (i + 1) := by
      have hd2 : o.drop i = p :: o.drop (i + 1) := by
        rw [List.drop_eq_getElem_cons il]
        congr 1
        exact (List.getElem?_eq_some_iff.mp hp).2
      rw [← hd2, List.take_append_drop]
    have nin : p ∉ o.take i := fun z => by
      have nd := W.ord.pl.nd
      rw [eo] at nd
      exact (List.nodup_append.mp nd).2.2 p z p (List.mem_cons_self ..) rfl
    have test : (ps.contains p || (decide (p ≠ f) && (valV (keysD ((o.take i).filter (byd up f ps))) (.inl ((tow up f p : Nat) : Int))).isSome)) = byd up f ps p := by
      rw [keysD_val]
      by_cases c : p = f
      · rw [decide_eq_false (fun z => z c), Bool.false_and, Bool.or_false, c, byd_f]
      · have tl := (W.ord.topo _ _ _ eo).resolve_left c
        rw [decide_eq_true c, Bool.true_and, byd_tow ps c]
        congr 1
        rw [Bool.eq_iff_iff, List.contains_iff_mem, List.mem_filter]
        exact ⟨fun h => h.2, fun h => ⟨tl, h⟩⟩
    refine s_when (et_is (et_or (et_test (ev_is (ev_inL (ev_var rfl) (ev_var rfl) (sq_of (e1 _ _ ha)) rfl (flat_ints _)) (congrArg V.bl (inV_I p ps)))) fun _ => et_B (ev_dinN (p := p) (ev_op (ev_toward T W1.g (ev_var rfl)) (ev_var rfl) (rv_ixL (sq_of W1.g.tl) (atI_nat (range_map_at _ pn)))) (ev_var rfl) hd)) test) (fun c H2 e2 => ?_) (fun c H2 e2 => ?_)
    · have d2 := e2 _ _ hd
      have vn : valV (keysD ((o.take i).filter (byd up f ps))) (.inl (p : Int)) = none := by
        have := keysD_val p ((o.take i).filter (byd up f ps))
        rw [show ((o.take i).filter (byd up f ps)).contains p = false from by
          rw [Bool.eq_false_iff]
          intro z
          exact nin (List.mem_filter.mp (by simpa using z)).1] at this
        cases hv : valV (keysD ((o.take i).filter (byd up f ps))) (.inl (p : Int)) with
        | none => rfl
        | some y => rw [hv] at this; cases this
      refine ⟨.ref d, rfl, .int (p : Int), rfl, d, _, rfl, DPut.k (k := .inl (p : Int)) d2 ?_, ?_⟩
      · unfold keysD
        rw [List.length_map]
        have l1 := List.length_filter_le (byd up f ps) (o.take i)
        have l2 := (List.take_sublist i o).length_le
        exact sz_lt (by omega)
      · refine ⟨_, rfl, (e1.trans e2).mut nd, ?_⟩
        rw [upd_same, putK_new _ vn, take_filter_snoc hp, if_pos c]
        unfold keysD
        rw [List.map_append]
        rfl
    · refine ⟨_, rfl, e1.trans e2, ?_⟩
      rw [take_filter_snoc hp, if_neg (by rw [c]; decide), List.append_nil]
      exact e2 _ _ hd
  · subst h1
    rw [List.length_map, I_len, List.take_length] at hd
    refine s_ret (v := .int ((cov up (up.length + 1) f ps : Nat) : Int)) (fun H2 e2 Q q => ⟨.ref d, rfl, d, _, rfl, e2 _ _ hd, ?_⟩) fun H2 e2 => k H2 (e1.trans e2)
    have e : (((keysD (o.filter (byd up f ps))).length : Nat) : Int) = ((cov up (up.length + 1) f ps : Nat) : Int) := by
      unfold keysD
      rw [List.length_map, byd_count W.ord]
    rw [e]
    exact q H2 (Ex.refl _)
theorem ev_sum {ns : List Int} (h : EvL te σ H (ns.map V.int)) : Ev (tCB (rSum K) (tCons te tNil)) σ H (.int ns.sum) := fun H1 e Q q =>
  h H1 e _ fun p H2 hp e2 h2 => ⟨p, ns, rfl, sq_of h2, q H2 e2⟩
theorem sum_I (S : Nat → Nat) : ∀ ps : List Nat, ((I ps).map fun z => ((S z.toNat : Nat) : Int)).sum = ((sm S ps : Nat) : Int)
  | [] => rfl
  | p :: ps => by
    have ih := sum_I S ps
    rw [sm_cons]
    show ((S p : Nat) : Int) + ((I ps).map fun z => ((S z.toNat : Nat) : Int)).sum = _
    rw [ih]
    omega
theorem pure_count_kept (T : Txt K mg L) (vs : List V) (H : Hp) (Q : VK) (E : XK) (h : sp_count_kept K L vs H Q E) : t_count_kept K L (En Q) (start N_count_kept vs) H := by
  obtain ⟨w, B, up, f, o, a, ps, rfl, W, ha, hps, hl, k⟩ := h
  refine s_ret (ev_is (ev_sum (ns := (I ps).map fun z => ((sz up (up.length + 1) f z.toNat : Nat) : Int)) (el_is (el_lcMap (ns := I ps) (fun z => .int ((sz up (up.length + 1) f z.toNat : Nat) : Int)) (ev_var rfl) (sq_of ha) (by rw [I_len]; omega) (fun _ => rfl) fun z H1 hz e1 => ?_) ?_)) (congrArg V.int (sum_I _ ps))) k
  · obtain ⟨p, hp, rfl⟩ := of_I hz
    have W1 := W.mono e1
    exact ev_op (ev_sizes T W1.g (ev_var rfl)) (ev_var rfl) (rv_ixL (sq_of W1.g.sl) (atI_nat (nl_at (range_map_at _ (hps p hp)))))
  · rw [List.map_map]
    rfl
/-! ### lists of lists -/
def EvLL (te : TE) (σ : L2.St) (H : Hp) (ls : List (List Nat)) : Prop := ∀ H1, Ex H H1 → ∀ Q : VK, (∀ p ps H2, Ex H1 H2 → H2 p = some (.lst (ps.map V.ref)) → Lists H2 ps ls → Q (.ref p) H2) → te σ H1 Q
theorem Lists.mono {H H' : Hp} {ps : List Addr} {ls : List (List Nat)} (h : Lists H ps ls) (e : Ex H H') : Lists H' ps ls := ⟨h.1, fun i p l h1 h2 => e _ _ (h.2 i p l h1 h2)⟩
theorem Lists.nil {H : Hp} : Lists H [] [] := ⟨rfl, fun i p l h _ => by simp at h⟩
theorem Lists.append {H : Hp} {ps qs : List Addr} {ls ms : List (List Nat)} (h : Lists H ps ls) (h2 : Lists H qs ms) : Lists H (ps ++ qs) (ls ++ ms) := by
  refine ⟨by rw [List.length_append, List.length_append, h.1, h2.1], fun i p l a b => ?_⟩
  by_cases c : i < ps.length
  · rw [List.getElem?_append_left c] at a
    rw [List.getElem?_append_left (by rw [← h.1]; exact c)] at b
    exact h.2 i p l a b
  · rw [List.getElem?_append_right (by omega)] at a
    rw [List.getElem?_append_right (by rw [← h.1]; omega), ← h.1] at b
    exact h2.2 _ p l a b
theorem Lists.one {H : Hp} {p : Addr} {l : List Nat} (h : H p = some (nl l)) : Lists H [p] [l] := ⟨rfl, fun i q m a b => by
  cases i with
  | zero =>
    cases a
    cases b
    exact h
  | succ i => simp at a⟩
theorem ref_at {ps : List Addr} {i : Nat} {x : V} (h : (ps.map V.ref)[i]? = some x) : ∃ q, ps[i]? = some q ∧ x = .ref q := by
  rw [List.getElem?_map] at h
  cases e : ps[i]? with
  | none => rw [e] at h; cases h
  | some q => rw [e] at h; exact ⟨q, rfl, (Option.some.inj h).symm⟩
/-- [e for l in ls], each a new list -/
theorem ell_map {tl : TE} {j : Nat} {vs : List Nat} {ls : List (List Nat)} (g : List Nat → List Nat) (h : EvLL tl σ H ls) (hz : ls.length ≤ 40000) (hw : ∀ x, wipe ((wipe σ vs).set j (some x)) vs = wipe σ vs)
    (he : ∀ l q H1, l ∈ ls → Ex H H1 → H1 q = some (nl l) → EvL te ((wipe σ vs).set j (some (.ref q))) H1 ((I (g l)).map V.int)) : EvLL (tLc (iList K tl) (gName j) tYes te vs) σ H (ls.map g) := fun H1 e Q q =>
  h H1 e _ fun a ps H2 e2 ha hL => ⟨a, rfl, ⟨_, sq_of ha⟩, fun Dl hD =>
    lc_list (xs := ps.map V.ref) (fun i H' => Ex H2 H' ∧ ∃ qs, H' Dl = some (.lst (qs.map V.ref)) ∧ Dl ∉ qs ∧ Lists H' qs ((ls.take i).map g)) ⟨Ex.new hD, [], upd_same, List.not_mem_nil, by rw [List.take_zero]; exact Lists.nil⟩ (fun i H' _ p => sq_of (p.1 _ _ ha))
      (fun i x H' hi ⟨p1, qs, p2, p4, p3⟩ => by
        obtain ⟨r, hr, rfl⟩ := ref_at hi
        have il : i < ls.length := by rw [← hL.1]; exact (List.getElem?_eq_some_iff.mp hr).1
        have hl := List.getElem?_eq_getElem il
        have hq := p1 _ _ (hL.2 i r _ hr hl)
        refine ⟨hw _, ?_⟩
        refine he _ r H' (List.mem_of_getElem? hl) ((e.trans e2).trans p1) hq H' (Ex.refl _) _ fun t H3 ht e3 h3 => ?_
        have dn : H2 Dl = none := hD
        have ql : qs.length = i := by
          rw [p3.1, List.length_map, List.length_take]
          omega
        have td : t ≠ Dl := fun z => by rw [z, p2] at ht; cases ht
        refine ⟨qs.map V.ref, e3 _ _ p2, sz_lt (by rw [List.length_map]; omega), (p1.trans e3).mut hD, qs ++ [t], ?_, fun z => (List.mem_append.mp z).elim p4 fun z => td (List.mem_singleton.mp z).symm, ?_⟩
        · rw [upd_same, List.map_append]
          rfl
        · have es : (ls.take (i + 1)).map g = (ls.take i).map g ++ [g ls[i]] := by
            rw [List.take_add_one, hl, List.map_append]
            rfl
          rw [es]
          refine Lists.append ⟨p3.1, fun m b l a1 a2 => ?_⟩ (Lists.one ((upd_ne td).trans h3))
          have hb := e3 _ _ (p3.2 m b l a1 a2)
          exact (upd_ne (fun (z : b = Dl) => p4 (by rw [← z]; exact List.mem_of_getElem? a1))).trans hb)
      (fun H' ⟨p1, qs, p2, _, p3⟩ => q Dl qs H' (e2.trans p1) p2 (by
        rw [List.length_map, hL.1, List.take_length] at p3
        exact p3))⟩
end
end FS

set_option maxRecDepth 100000
set_option maxHeartbeats 4000000
namespace FS
open PySem PySem.Spec PyProof.Rows L2 Evl
open Su121 (Abs some_)
/-! # The choices; the best from a front on -/
theorem ch_fits : ∀ {l : List Nat} {e : Nat}, l.length ≤ e → ch e l = [l]
  | [], e, _ => rfl
  | a :: l, e, h => by
    rw [List.length_cons] at h
    unfold ch
    rw [if_pos h]
theorem ch_zero {l : List Nat} (h : ¬ l.length ≤ 0) : ch 0 l = [[]] := by
  cases l with
  | nil => exact absurd (Nat.le_refl _) h
  | cons a l =>
    unfold ch
    rw [if_neg (by rw [List.length_cons] at h; exact h)]
theorem ch_step {a : Nat} {l : List Nat} {e : Nat} (h : ¬ l.length + 1 ≤ e + 1) : ch (e + 1) (a :: l) = (ch e l).map (fun s => a :: s) ++ ch (e + 1) l := by
  rw [ch, if_neg h]
theorem ch_len : ∀ (l : List Nat) (e : Nat), (ch e l).length ≤ 2 ^ l.length
  | [], e => Nat.le_refl 1
  | a :: l, e => by
    have p : 0 < 2 ^ l.length := Nat.two_pow_pos _
    rw [List.length_cons, Nat.pow_succ]
    by_cases h : l.length + 1 ≤ e
    · rw [ch_fits (by rw [List.length_cons]; exact h)]
      show 1 ≤ _
      omega
    · cases e with
      | zero =>
        rw [ch_zero (by rw [List.length_cons]; exact h)]
        show 1 ≤ _
        omega
      | succ e =>
        have h1 := ch_len l e
        have h2 := ch_len l (e + 1)
        rw [ch_step h, List.length_append, List.length_map]
        omega
theorem ch_len12 {l : List Nat} (h : l.length ≤ 12) (e : Nat) : (ch e l).length ≤ 4096 := Nat.le_trans (ch_len l e) (Nat.le_trans (Nat.pow_le_pow_right (by decide) h) (by decide))
section
variable {K : PySem.W.Frag} {mg : Str → Option Value} {L : Locs} {D : Ends} {σ : L2.St} {H : Hp} {tu tz : TS} {te ta tb : TE}
theorem cut_head (v : V) (xs : List V) : cutV (v :: xs) none (some 1) = [v] := by
  unfold cutV
  rw [show (some (1 : Int)) = some ((1 : Nat) : Int) from rfl, HT.sIx_nat]
  have e : min 1 (v :: xs).length = 1 := by rw [List.length_cons]; omega
  rw [e]
  rfl
theorem cut_take (xs : List V) (e : Nat) : cutV xs none (some (e : Int)) = xs.take e := by
  unfold cutV
  rw [HT.sIx_nat]
  show (xs.drop 0).take (min e xs.length - 0) = _
  rw [List.drop_zero, Nat.sub_zero, Nat.min_comm]
  by_cases h : e ≤ xs.length
  · rw [Nat.min_eq_right h]
  · rw [Nat.min_eq_left (by omega), List.take_length, List.take_of_length_le (by omega)]
theorem eo_none : EvO tNoPart σ H none := fun H1 e Q q => q H1 (Ex.refl _)
/-- a call of two, the first a new list, gives lists -/
theorem ell_call {sp : Sp} {E : XK} {v : V} {xs : List V} {ls : List (List Nat)} (h1 : EvL ta σ H xs) (h2 : ∀ H1, Ex H H1 → Ev tb σ H1 v)
    (hs : ∀ p H1, Ex H H1 → H1 p = some (.lst xs) → ∀ Q : VK, RetLL ls H1 Q → sp [.ref p, v] H1 Q E) : EvLL (tCall sp [] E (tCons ta (tCons tb tNil))) σ H ls := fun H1 e Q q =>
  h1 H1 e _ fun p H2 hp e2 h2' => h2 H2 (e.trans e2) H2 (Ex.refl _) _ fun H3 e3 => hs p H3 ((e.trans e2).trans e3) (e3 _ _ h2') Q fun p' ps H4 e4 h4 l4 => q p' ps H4 ((e2.trans e3).trans e4) h4 l4
theorem s_retLst1 {xs : List V} (h : EvL te σ H xs) (k : ∀ p q H1, Ex H H1 → H1 q = some (.lst xs) → H1 p = some (.lst [.ref q]) → D.rt (.ref p) H1) : tRet (tLst (tCons te tNil)) D σ H := h H (Ex.refl H) _ fun q H1 hq e1 h1 =>
  ⟨sz_of (by show 1 ≤ 100000; decide), fun p hp => k p q _ (e1.trans (Ex.new hp)) ((upd_ne (ne_of_none h1 hp)).trans h1) upd_same⟩
theorem q_asgLL {i : Nat} {ls : List (List Nat)} (h : EvLL te σ H ls) (k : ∀ p ps H1, Ex H H1 → H1 p = some (.lst (ps.map V.ref)) → Lists H1 ps ls → tz D (σ.set i (some (.ref p))) H1) : tSeq (tAsg te (gName i)) tz D σ H := h H (Ex.refl H) _ k
theorem s_retCatLL {p : Addr} {ps : List Addr} {ls ms : List (List Nat)} (ha : Ev ta σ H (.ref p)) (hp : H p = some (.lst (ps.map V.ref))) (hl : Lists H ps ls) (hb : EvLL tb σ H ms) (hz : ls.length + ms.length ≤ 100000)
    (k : ∀ r qs H1, Ex H H1 → H1 r = some (.lst (qs.map V.ref)) → Lists H1 qs (ls ++ ms) → D.rt (.ref r) H1) : tRet (tOp rCat ta tb) D σ H := ha H (Ex.refl H) _ fun H1 e1 => hb H1 e1 _ fun q qs H2 e2 h2 l2 =>
  ⟨p, q, ps.map V.ref, qs.map V.ref, rfl, rfl, e2 _ _ (e1 _ _ hp), h2, sz_of (by rw [List.length_map, List.length_map, hl.1, l2.1]; exact hz), fun r hr =>
    k r (ps ++ qs) _ ((e1.trans e2).trans (Ex.new hr)) (by rw [upd_same, List.map_append]) ((hl.mono ((e1.trans e2).trans (Ex.new hr))).append (l2.mono (Ex.new hr)))⟩
theorem pure_choices (m : Nat) (T : Txt K mg L) (vs : List V) (H : Hp) (Q : VK) (E : XK) (h : sp_choices K L (m + 1) vs H Q E) : t_choices K L (sp_choices K L m) (En Q) (start N_choices vs) H := by
  obtain ⟨fa, l, e, rfl, hf, hm, h12, k⟩ := h
  have ll : ((I l).map V.int).length = l.length := by rw [List.length_map, I_len]
  refine q_when (et_test (ev_op (ev_len (ev_var rfl) (sq_of hf)) (ev_var rfl) rv_I0)) (fun c H1 e1 => ?_) (fun c H1 e1 => ?_)
  · rw [decide_eq_true_eq, ll] at c
    rw [ch_fits (by omega)] at k
    exact s_retL (D := { nx := _, rt := Q }) (el_lst (ea_cons (ev_var rfl) ea_nil) (by show 1 ≤ 100000; decide)) fun p H2 hp e2 h2 => k p [fa] H2 (e1.trans e2) h2 (Lists.one (e2 _ _ (e1 _ _ hf)))
  rw [decide_eq_false_iff_not, ll] at c
  refine q_when (et_test (ev_op (ev_var rfl) ev_c (rv_eq rfl))) (fun c2 H2 e2 => ?_) (fun c2 H2 e2 => ?_)
  · rw [decide_eq_true_eq] at c2
    have e0 : e = 0 := by
      injection c2 with c2
      omega
    subst e0
    rw [ch_zero (by omega)] at k
    exact s_retLst1 (D := { nx := _, rt := Q }) (el_lst ea_nil (by decide)) fun p q H3 e3 h3 h4 => k p [q] H3 ((e1.trans e2).trans e3) h4 (Lists.one h3)
  rw [decide_eq_false_iff_not] at c2
  have epos : e ≠ 0 := fun z => c2 (by rw [z]; rfl)
  obtain ⟨e', rfl⟩ : ∃ e', e = e' + 1 := ⟨e - 1, by omega⟩
  cases l with
  | nil => exact absurd (Int.natCast_nonneg _) c
  | cons a l =>
    rw [List.length_cons] at hm h12 c
    have st := ch_step (a := a) (l := l) (e := e') (by omega)
    rw [st] at k
    have e12 := e1.trans e2
    have hf2 := e12 _ _ hf
    have tail : ∀ {σ : L2.St} {H : Hp}, σ[0]? = some (some (.ref fa)) → H fa = some (nl (a :: l)) → EvL (tSl (rSlL K) (tVar 0) (tPart (tC (.int 1))) tNoPart) σ H ((I l).map V.int) := fun h0 h1 => el_is (el_sl (ev_var h0) (eo_some ev_c) eo_none (sq_of h1)) (cut_tail _ _)
    -- with_first
    refine q_asgLL (ell_map (K := K) (ls := ch e' l) (fun s => a :: s) (ell_call (tail rfl hf2) (fun H1 e => ev_is (ev_op (ev_var rfl) ev_c rv_I0) (show V.int (((e' + 1 : Nat) : Int) - 1) = .int (e' : Int) by congr 1; omega)) fun p H3 e3 h3 Q q => ⟨p, l, e', rfl, h3, by omega, by omega, q⟩) (by have := ch_len12 (l := l) (by omega) e'; omega) (fun _ => rfl) fun s q H3 hs e3 h3 => ?_) fun pw ps H3 e3 h3 l3 => ?_
    · refine el_is (el_cat (xs := [V.int (a : Int)]) (el_is (el_sl (ev_var rfl) eo_none (eo_some ev_c) (sq_of (e3 _ _ hf2))) (cut_head _ _)) (fun H4 e4 => ev_var rfl) h3 ?_) rfl
      rw [List.length_map, I_len]
      have := ((some_sub e' l s) ?_).1.length_le
      · show 1 + s.length ≤ 100000
        omega
      · by_cases c3 : e' ≤ l.length
        · rw [ch_eq l e' c3] at hs
          exact (List.mem_filter.mp hs).1
        · omega
    · -- with_first + choices(front[1:], each)
      have hf3 := e3 _ _ hf2
      refine s_retCatLL (ev_var rfl) h3 l3 (ell_call (ls := ch (e' + 1) l) (tail rfl hf3) (fun H1 e => ev_var rfl) fun p H4 e4 h4 Q q => ⟨p, l, e' + 1, rfl, h4, by omega, by omega, q⟩) ?_ fun r qs H4 e4 h4 l4 => k r qs H4 ((e12.trans e3).trans e4) h4 l4
      have h1 := ch_len12 (l := l) (by omega) e'
      have h2 := ch_len12 (l := l) (by omega) (e' + 1)
      rw [List.length_map]
      omega
end
end FS

set_option maxRecDepth 100000
set_option maxHeartbeats 4000000
namespace FS
open PySem PySem.Spec PyProof.Rows L2 Evl
open Su121 (Abs some_)
/-! # The best from a front on, in the program -/
section
variable {up : List Nat} {n f e : Nat}
theorem bs_lt : ∀ (k : Nat) (l : List Nat), Pl n l → ∀ p ∈ bs up n f e k l, p < n
  | 0, l, _, p, h => absurd h List.not_mem_nil
  | k + 1, l, pl, p, h => by
    by_cases c : l = []
    · rw [c, bs_nil] at h
      exact absurd h List.not_mem_nil
    obtain ⟨x, hx, ex⟩ := List.mem_map.mp (bs_first (up := up) (n := n) (f := f) (e := e) (k := k) c).mem
    rw [← ex] at h
    rcases List.mem_append.mp h with m | m
    · exact pl.lt p ((some_sub _ _ _ hx).1.subset m)
    · exact bs_lt k _ pl_kids p m
theorem len_sm {l : List Nat} (h : ∀ p ∈ l, p < n) : l.length ≤ sm (sz up n f) l := by
  induction l with
  | nil => exact Nat.le_refl _
  | cons p l ih =>
    have := ih fun q hq => h q (List.mem_cons_of_mem _ hq)
    have := sz_pos (up := up) (f := f) (h p (List.mem_cons_self ..))
    rw [List.length_cons, sm_cons]
    omega
theorem sz_le (p : Nat) : sz up n f p ≤ n := by
  unfold sz
  have := List.length_filter_le (fun r => decide (On up f r p)) (List.range n)
  rwa [List.length_range] at this
theorem sm_le (l : List Nat) : sm (sz up n f) l ≤ n * l.length := by
  induction l with
  | nil => exact Nat.zero_le _
  | cons p l ih =>
    have := sz_le (up := up) (n := n) (f := f) p
    rw [List.length_cons, sm_cons, Nat.mul_add]
    omega
theorem Pl.len {l : List Nat} (h : Pl n l) : l.length ≤ n := by
  have s : l ⊆ List.range n := fun q hq => List.mem_range.mpr (h.lt q hq)
  have := h.nd.length_le_of_subset s
  rwa [List.length_range] at this
theorem bs_len (hf : f < n) (hn : n ≤ 12) (k : Nat) {l : List Nat} (h : Pl n l) : (bs up n f e k l).length ≤ 144 := by
  have h1 := len_sm (up := up) (f := f) (bs_lt (up := up) (f := f) (e := e) k l h)
  have h2 := bs_le (up := up) (e := e) hf k h
  have h3 := sm_le (up := up) (n := n) (f := f) l
  have h4 : n * l.length ≤ 12 * 12 := Nat.mul_le_mul hn (Nat.le_trans h.len hn)
  omega
theorem kids_dep {l : List Nat} {d : Nat} (h : ∀ p ∈ l, dd up f p = d) : ∀ p ∈ kids up n f l, dd up f p = d + 1 := fun p hp => by
  obtain ⟨_, h2, h3⟩ := mem_kids.mp hp
  have := tow_dep (up := up) h2
  rw [h _ h3] at this
  exact this.symm
theorem Ord.f_lt {o : List Nat} (b : Ord up n f o) : f < n := by
  obtain ⟨r, hr⟩ := b.head
  exact b.pl.lt f (by rw [hr]; exact List.mem_cons_self ..)
/-- deeper than there are places there's none -/
theorem deep_nil {l : List Nat} {d : Nat} (hf : f < n) (h : Pl n l) (hd : ∀ p ∈ l, dd up f p = d) (hn : n ≤ d) : l = [] := by
  cases l with
  | nil => rfl
  | cons p l =>
    have h1 := hd p (List.mem_cons_self ..)
    have h2 := h.lt p (List.mem_cons_self ..)
    have := dd_le (up := up) f p
    omega
end
section
variable {K : PySem.W.Frag} {mg : Str → Option Value} {L : Locs} {D : Ends} {σ : L2.St} {H : Hp} {tu tz : TS} {te ta tb : TE}
/-- for q in a new list of lists -/
theorem q_forLL {tl : TE} {j : Nat} {ls : List (List Nat)} (h : EvLL tl σ H ls) (Pv : Addr → List Addr → Nat → L2.St → Hp → Prop) (h0 : ∀ p ps H1, Ex H H1 → H1 p = some (.lst (ps.map V.ref)) → Lists H1 ps ls → Pv p ps 0 σ H1)
    (hl : ∀ p ps i σ' H', Pv p ps i σ' H' → H' p = some (.lst (ps.map V.ref))) (hs : ∀ p ps i q σ' H', ps.length = ls.length → ps[i]? = some q → Pv p ps i σ' H' → tu { D with nx := Pv p ps (i + 1), ct := Pv p ps (i + 1), bk := tz D } (σ'.set j (some (.ref q))) H')
    (hd : ∀ p ps σ' H', Pv p ps ls.length σ' H' → tz D σ' H') : tSeq (tFor (iList K tl) (gName j) tu) tz D σ H := h H (Ex.refl H) _ fun p ps H1 e1 h1 l1 =>
  ⟨p, rfl, ⟨_, sq_of h1⟩, for_list (D := { D with nx := tz D }) (xs := ps.map V.ref) (Pv p ps) (h0 p ps H1 e1 h1 l1) (fun i σ' H' _ pv => sq_of (hl p ps i σ' H' pv)) (fun i x σ' H' hx pv => by
    obtain ⟨q, hq, rfl⟩ := ref_at hx
    exact hs p ps i q σ' H' l1.1 hq pv) fun σ' H' pv => by
    rw [List.length_map, l1.1] at pv
    exact hd p ps σ' H' pv⟩
/-- xs + ys, ys new or not -/
theorem el_catE {ns ms : List Nat} {b : Addr} (ha : Ev ta σ H (.ref b)) (h : H b = some (nl ns)) (hb : EvE tb σ H ms) (hz : ns.length + ms.length ≤ 100000) : EvL (tOp rCat ta tb) σ H ((I (ns ++ ms)).map V.int) := fun H1 e Q q =>
  ha H1 e _ fun H2 e2 => hb H2 (e.trans e2) _ fun p H3 e3 h3 => ⟨b, p, (I ns).map V.int, (I ms).map V.int, rfl, rfl, e3 _ _ (e2 _ _ (e _ _ h)), h3, sz_of (by rw [List.length_map, List.length_map, I_len, I_len]; exact hz), fun r hr => by
    have g := q r _ (fresh_back (e2.trans e3) hr) ((e2.trans e3).trans (Ex.new hr)) (by rw [upd_same])
    rw [I_append, List.map_append] at g
    exact g⟩
/-- a call of three, the last a new list -/
theorem ee_call3 {sp : Sp} {E : XK} {t1 t2 t3 : TE} {v1 v2 : V} {xs : List V} {ns : List Nat} (h1 : Ev t1 σ H v1) (h2 : Ev t2 σ H v2) (h3 : EvL t3 σ H xs) (hs : ∀ p H1, Ex H H1 → H1 p = some (.lst xs) → ∀ Q : VK, RetE ns H1 Q → sp [v1, v2, .ref p] H1 Q E) :
    EvE (tCall sp [] E (tCons t1 (tCons t2 (tCons t3 tNil)))) σ H ns := fun H1 e Q q => h1 H1 e _ fun H2 e2 => h2 H2 (e.trans e2) _ fun H3 e3 => h3 H3 ((e.trans e2).trans e3) _ fun p H4 _ e4 h4 =>
  hs p H4 (((e.trans e2).trans e3).trans e4) h4 Q fun p' H5 e5 h5 => q p' H5 (((e2.trans e3).trans e4).trans e5) h5
theorem spv_count_kept {w : Addr} {B : WAdr} {up : List Nat} {f : Nat} {o : List Nat} {a : Addr} {ps : List Nat} (W : WaysAt L.C_Ways H w B up f o) (ha : H a = some (nl ps)) (hp : ∀ p ∈ ps, p < up.length + 1) (hl : ps.length ≤ 1000) :
    SpV (sp_count_kept K L) [.ref w, .ref a] H (.int ((sm (sz up (up.length + 1) f) ps : Nat) : Int)) := fun H1 e Q q E => ⟨w, B, up, f, o, a, ps, rfl, W.mono e, e _ _ ha, hp, hl, q⟩
theorem spl_front_behind {w : Addr} {B : WAdr} {up : List Nat} {f : Nat} {o : List Nat} {fa xa : Addr} {l x : List Nat} (W : WaysAt L.C_Ways H w B up f o) (hf : H fa = some (nl l)) (hx : H xa = some (nl x)) (hl : l.length ≤ 12) :
    SpL (sp_front_behind K L) [.ref w, .ref fa, .ref xa] H ((I (kids up (up.length + 1) f (out l x))).map V.int) := fun H1 e Q q E => ⟨w, B, up, f, o, fa, xa, l, x, rfl, W.mono e, e _ _ hf, e _ _ hx, hl, q⟩
theorem pure_best_from (m : Nat) (T : Txt K mg L) (vs : List V) (H : Hp) (Q : VK) (E : XK) (h : sp_best_from K L (m + 1) vs H Q E) : t_best_from K L (sp_best_from K L m) (En Q) (start N_best_from vs) H := by
  obtain ⟨w, B, up, f, o, fa, l, d, k, e, rfl, W, hl, he, pl, hd, hk, hkm, q⟩ := h
  have n12 := W.n12
  have hf := W.ord.f_lt
  have ll : ((I l).map V.int).length = l.length := by rw [List.length_map, I_len]
  have l12 : l.length ≤ 12 := Nat.le_trans pl.len n12
  refine q_when (et_test (ev_op (ev_len (ev_var rfl) (sq_of hl)) (ev_var rfl) rv_I0)) (fun c H1 e1 => ?_) (fun c H1 e1 => ?_)
  · rw [decide_eq_true_eq, ll] at c
    refine s_ret (D := { nx := _, rt := Q }) (ev_var rfl) fun H2 e2 => q fa H2 (e1.trans e2) ?_
    have e0 : bs up (up.length + 1) f e k l = l := by
      cases k with
      | zero => rw [deep_nil hf pl hd (by omega)]; rfl
      | succ k => exact bs_fits hf pl (by omega)
    rw [e0]
    exact e2 _ _ (e1 _ _ hl)
  rw [decide_eq_false_iff_not, ll] at c
  have lne : l ≠ [] := fun z => by rw [z] at c; exact c (Int.natCast_nonneg _)
  obtain ⟨k, rfl⟩ : ∃ k', k = k' + 1 := by
    cases k with
    | zero => exact absurd (deep_nil hf pl hd (by omega)) lne
    | succ k => exact ⟨k, rfl⟩
  have full := bs_full (up := up) (n := up.length + 1) (f := f) (e := e) (k := k) hf pl (by omega)
  refine q_asg ev_c fun H2 e2 => ?_
  refine q_asgL (el_lst ea_nil (by decide)) fun b0 H3 nb e3 h3 => ?_
  have ex3 := (e1.trans e2).trans e3
  -- the choices are parts of the front
  have chs : ∀ x ∈ ch e l, x.Sublist l ∧ x.length = e := fun x hx => by
    rw [ch_eq l e (by omega)] at hx
    obtain ⟨h1, h2⟩ := List.mem_filter.mp hx
    exact ⟨(some_sub _ _ _ h1).1, by simpa using h2⟩
  refine q_forLL (ls := ch e l) (fun H4 e4 Q' q' => ?_)
    (fun p ps i σ' H' => ∃ (most : Nat) (best : List Nat) (bb : Addr) (v5 v6 : Option V), σ' = [some (.ref w), some (.int (e : Int)), some (.ref fa), some (.int (most : Int)), some (.ref bb), v5, v6] ∧ Ex H H' ∧ H' p = some (.lst (ps.map V.ref)) ∧ Lists H' ps (ch e l) ∧ H' bb = some (nl best) ∧
      (i = 0 → most = 0) ∧ (0 < i → FirstMax (sm (sz up (up.length + 1) f)) (((ch e l).take i).map fun x => x ++ bs up (up.length + 1) f e k (kids up (up.length + 1) f (out l x))) best ∧ most = sm (sz up (up.length + 1) f) best))
    (fun p ps H4 e4 h4 l4 => ⟨0, [], b0, none, none, rfl, ex3.trans e4, h4, l4, e4 _ _ h3, fun _ => rfl, fun z => absurd z (Nat.lt_irrefl _)⟩) (fun p ps i σ' H' ⟨_, _, _, _, _, _, _, h, _⟩ => h) (fun p ps i x σ' H' pl_ hx ⟨most, best, bb, v5, v6, h1, ex, hp, hL, hb, hi0, hi1⟩ => ?_) (fun p ps σ' H' ⟨most, best, bb, v5, v6, h1, ex, hp, hL, hb, hi0, hi1⟩ => ?_)
  · -- choices(front, each)
    have W4 := W.mono (ex3.trans e4)
    refine (ea_cons (ev_var (v := .ref fa) rfl) (ea_cons (ev_var rfl) ea_nil)) H4 (Ex.refl _) _ fun H5 e5 => ⟨fa, l, e, rfl, e5 _ _ (e4 _ _ (ex3 _ _ hl)), by omega, l12, fun p ps H6 e6 h6 l6 => q' p ps H6 (e5.trans e6) h6 l6⟩
  · subst h1
    have il : i < (ch e l).length := by rw [← pl_]; exact (List.getElem?_eq_some_iff.mp hx).1
    have hc := List.getElem?_eq_getElem il
    generalize (ch e l)[i] = c at hc
    obtain ⟨cs, cl⟩ := chs c (List.mem_of_getElem? hc)
    have hxa := hL.2 i x c hx hc
    have W1 := W.mono ex
    have hfa := ex _ _ hl
    have plk : Pl (up.length + 1) (kids up (up.length + 1) f (out l c)) := pl_kids
    have blen := bs_len (up := up) (e := e) hf n12 k plk
    have blt := bs_lt (up := up) (f := f) (e := e) k _ plk
    -- places = chosen + best_from(..)
    refine q_asgL (el_catE (ns := c) (ms := bs up (up.length + 1) f e k (kids up (up.length + 1) f (out l c))) (ev_var rfl) hxa (ee_call3 (ev_var rfl) (ev_var rfl) (el_call (ea_cons (ev_var rfl) (ea_cons (ev_var rfl) (ea_cons (ev_var rfl) ea_nil))) (spl_front_behind W1 hfa hxa l12))
      fun p H4 e4 h4 Q q => ⟨w, B, up, f, o, p, _, d + 1, k, e, rfl, W1.mono e4, h4, he, plk, kids_dep fun r hr => hd r (out_mem.mp hr).1, by omega, by omega, q⟩) (by omega)) fun pb H4 npb e4 h4 => ?_
    have W4 := W1.mono e4
    have ex4 := ex.trans e4
    have glt : ∀ p ∈ c ++ bs up (up.length + 1) f e k (kids up (up.length + 1) f (out l c)), p < up.length + 1 := fun p hp => (List.mem_append.mp hp).elim (fun z => pl.lt p (cs.subset z)) (blt p)
    have glen : (c ++ bs up (up.length + 1) f e k (kids up (up.length + 1) f (out l c))).length ≤ 1000 := by rw [List.length_append]; omega
    have gpos : 0 < sm (sz up (up.length + 1) f) (c ++ bs up (up.length + 1) f e k (kids up (up.length + 1) f (out l c))) := by
      have := len_sm (up := up) (f := f) glt
      rw [List.length_append] at this
      omega
    have tm : ((ch e l).take (i + 1)).map (fun x => x ++ bs up (up.length + 1) f e k (kids up (up.length + 1) f (out l x))) = ((ch e l).take i).map (fun x => x ++ bs up (up.length + 1) f e k (kids up (up.length + 1) f (out l x))) ++ [c ++ bs up (up.length + 1) f e k (kids up (up.length + 1) f (out l c))] := by
      rw [List.take_add_one, hc, List.map_append]
      rfl
    generalize c ++ bs up (up.length + 1) f e k (kids up (up.length + 1) f (out l c)) = g at h4 glt glen gpos tm
    refine s_when (et_test (ev_op (ev_call (ea_cons (ev_var rfl) (ea_cons (ev_var rfl) ea_nil)) (spv_count_kept W4 h4 glt glen)) (ev_var rfl) rv_I0)) (fun t H5 e5 => ?_) (fun t H5 e5 => ?_)
    · rw [decide_eq_true_eq] at t
      refine q_asg (ev_call (ea_cons (ev_var rfl) (ea_cons (ev_var rfl) ea_nil)) (spv_count_kept (W4.mono e5) (e5 _ _ h4) glt glen)) fun H6 e6 => ?_
      refine s_asg (ev_var rfl) fun H7 e7 => ⟨sm (sz up (up.length + 1) f) g, g, pb, _, _, rfl, ((ex4.trans e5).trans e6).trans e7, e7 _ _ (e6 _ _ (e5 _ _ (e4 _ _ hp))), (((hL.mono e4).mono e5).mono e6).mono e7, e7 _ _ (e6 _ _ (e5 _ _ h4)), fun z => absurd z (Nat.succ_ne_zero _), fun _ => ⟨?_, rfl⟩⟩
      rw [tm]
      refine FirstMax.snoc_lt fun z hz => ?_
      by_cases i0 : i = 0
      · subst i0
        rw [List.take_zero] at hz
        exact absurd hz List.not_mem_nil
      · obtain ⟨fm, me⟩ := hi1 (Nat.pos_of_ne_zero i0)
        have := fm.le hz
        omega
    · rw [decide_eq_false_iff_not] at t
      refine ⟨most, best, bb, _, _, rfl, ex4.trans e5, e5 _ _ (e4 _ _ hp), (hL.mono e4).mono e5, e5 _ _ (e4 _ _ hb), fun z => absurd z (Nat.succ_ne_zero _), fun _ => ?_⟩
      by_cases i0 : i = 0
      · have := hi0 i0
        omega
      · obtain ⟨fm, me⟩ := hi1 (Nat.pos_of_ne_zero i0)
        rw [tm]
        exact ⟨fm.snoc_le (by omega), me⟩
  · subst h1
    rw [List.take_length] at hi1
    have cne : 0 < (ch e l).length := by
      have := full.mem
      cases hc : ch e l with
      | nil => rw [hc] at this; cases this
      | cons _ _ => exact Nat.succ_pos _
    obtain ⟨fm, _⟩ := hi1 cne
    refine s_ret (ev_var rfl) fun H4 e4 => q bb H4 (ex.trans e4) ?_
    rw [full.unique fm]
    exact e4 _ _ hb
theorem spl_first_front {w : Addr} {B : WAdr} {up : List Nat} {f : Nat} {o : List Nat} (W : WaysAt L.C_Ways H w B up f o) : SpL (sp_first_front K L) [.ref w] H ((I (kids up (up.length + 1) f [f])).map V.int) := fun H1 e Q q E => ⟨w, B, up, f, o, rfl, W.mono e, q⟩
theorem pure_best_row (T : Txt K mg L) (vs : List V) (H : Hp) (Q : VK) (E : XK) (h : sp_best_row K L vs H Q E) : t_best_row K L (En Q) (start N_best_row vs) H := by
  obtain ⟨w, B, up, f, o, e, rfl, W, he, k⟩ := h
  have n12 := W.n12
  refine (ee_call3 (ev_var rfl) (ev_var rfl) (el_call (ea_cons (ev_var rfl) ea_nil) (spl_first_front W)) fun p H4 e4 h4 Q q => ⟨w, B, up, f, o, p, _, 1, up.length + 1, e, rfl, W.mono e4, h4, he, pl_kids, kids_dep (d := 0) fun r hr => by rw [List.mem_singleton.mp hr, dd_self], by omega, by omega, q⟩) H (Ex.refl _) _ fun p H1 e1 h1 => k p H1 e1 h1
end
end FS

set_option maxRecDepth 100000
set_option maxHeartbeats 4000000
namespace FS
open PySem PySem.Spec PyProof.Rows L2 Evl
open Su121 (Abs some_)
/-! # The greatest first, in the program -/
section
variable {up : List Nat} {n f e : Nat}
theorem gr_step {k : Nat} {l : List Nat} (h : l ≠ []) : gr up n f e (k + 1) l = (srt (sz up n f) l).take e ++ gr up n f e k (kids up n f (out l ((srt (sz up n f) l).take e))) := if_neg h
theorem gr_len : ∀ (k : Nat) (l : List Nat), (gr up n f e k l).length ≤ e * k
  | 0, l => Nat.zero_le _
  | k + 1, l => by
    by_cases h : l = []
    · rw [h, gr_nil]; exact Nat.zero_le _
    · have := gr_len k (kids up n f (out l ((srt (sz up n f) l).take e)))
      rw [gr_step h, List.length_append, Nat.mul_add, List.length_take]
      omega
theorem gr_lt : ∀ (k : Nat) (l : List Nat), (∀ p ∈ l, p < n) → l.Pairwise (· < ·) → ∀ p ∈ gr up n f e k l, p < n
  | 0, l, _, _, p, h => absurd h List.not_mem_nil
  | k + 1, l, hl, hr, p, h => by
    by_cases c : l = []
    · rw [c, gr_nil] at h
      exact absurd h List.not_mem_nil
    rw [gr_step c] at h
    rcases List.mem_append.mp h with m | m
    · exact hl p ((srt_ok hr).2.mem_iff.mp (List.mem_of_mem_take m))
    · exact gr_lt k _ kids_lt kids_rise p m
end
section
variable {K : PySem.W.Frag} {mg : Str → Option Value} {L : Locs} {D : Ends} {σ : L2.St} {H : Hp} {tu tz : TS} {te ta tb : TE}
/-- xs.extend(ys) -/
theorem q_ext {l b : Addr} {xs zs : List V} (hl : H l = some (.lst xs)) (hb : H b = some (.lst zs)) (ha : Ev ta σ H (.ref l)) (h : Ev te σ H (.ref b)) (hz : xs.length + zs.length ≤ 100000) (k : ∀ H1, Ex H H1 → tz D σ (upd H1 l (.lst (xs ++ zs)))) :
    tSeq (tDrop (tBM K "list" rExtend ta (tCons te tNil))) tz D σ H := ha H (Ex.refl H) _ fun H1 e1 =>
  ⟨Or.inl ⟨rfl, xs, sq_of (e1 l _ hl)⟩, h H1 e1 _ fun H2 e2 => ⟨l, b, xs, zs, rfl, rfl, e2 l _ (e1 l _ hl), e2 _ _ (e1 _ _ hb), sz_of hz, k H2 (e1.trans e2)⟩⟩
/-- an object of ours may change -/
theorem EN.mut {H' : Hp} {p : Addr} {xs ys : List V} (e : EN L H H') (n : Nw H p) (hp : H' p = some (.lst xs)) : EN L H (upd H' p (.lst ys)) :=
  ⟨fun b o hb nt => (upd_ne (fun z => n.ne hb nt z.symm)).trans (e.keep b o hb nt), e.tk.trans (.upd hp pln_lst)⟩
/-- x = sorted(xs, ..)[:e] -/
theorem q_sortCut {i e : Nat} {a w : Addr} {B : WAdr} {up : List Nat} {f : Nat} {o l : List Nat} (ha : Ev ta σ H (.ref a)) (hl : H a = some (nl l)) (h0 : σ[0]? = some (some (.ref w))) (W : WaysAt L.C_Ways H w B up f o) (pl : Pl (up.length + 1) l) (rise : l.Pairwise (· < ·)) (ht : TabOk L H)
    (hb : ∀ H1, Ev tb σ H1 (.int (e : Int))) (k : ∀ p H1, EN L H H1 → Nw H p → H1 p = some (nl ((srt (sz up (up.length + 1) f) l).take e)) → tz D (σ.set i (some (.ref p))) H1) :
    tSeq (tAsg (tSl (rSlL K) (tSortKey K L (tCons ta tNil)) tNoPart (tPart tb)) (gName i)) tz D σ H := ha H (Ex.refl H) _ fun H1 e1 =>
  ⟨a, l, w, B, up, f, o, rfl, e1 _ _ hl, by have := pl.len; have := W.n12; omega, h0, W.mono e1, pl.lt, TK.ex e1 ht, fun ms p H2 pm pw en nw h2 => (hb H2) H2 (Ex.refl _) _ fun H3 e3 => ⟨(e : Int), rfl, p, (I ms).map V.int, rfl, sq_of (e3 _ _ h2), fun r hr => by
    have et : EN L H (upd H3 r (.lst (cutV ((I ms).map V.int) none (some (e : Int))))) := ((EN.ex e1).trans en).trans (.ex (e3.trans (Ex.new hr)))
    refine k r _ et ?_ ?_
    · exact (((EN.ex e1).trans en).trans (.ex e3)).grow _ (nw_of hr)
    · rw [upd_same, cut_take, srt_one rise pm pw]
      unfold nl FS.I
      rw [List.map_take, List.map_take]⟩⟩
theorem pure_greatest_first (T : Txt K mg L) (vs : List V) (H : Hp) (Q : VK) (E : XK) (h : sp_greatest_first K L vs H Q E) : t_greatest_first K L (En Q) (start N_greatest_first vs) H := by
  obtain ⟨w, B, up, f, o, e, rfl, W, he, ht, q⟩ := h
  have n12 := W.n12
  have hf := W.ord.f_lt
  refine q_asgL (el_lst ea_nil (by decide)) fun pp H1 np e1 h1 => ?_
  refine q_asgL (el_call (ea_cons (ev_var rfl) ea_nil) (spl_first_front (W.mono e1))) fun pf H2 nf e2 h2 => ?_
  have nwp : Nw H pp := nw_of np
  refine q_while (fun m σ' H' => ∃ (done l : List Nat) (d : Nat) (pf : Addr) (v4 : Option V), σ' = [some (.ref w), some (.int (e : Int)), some (.ref pp), some (.ref pf), v4] ∧ EN L H H' ∧ H' pp = some (nl done) ∧ H' pf = some (nl l) ∧ pf ≠ pp ∧ Pl (up.length + 1) l ∧ l.Pairwise (· < ·) ∧ (∀ p ∈ l, dd up f p = d) ∧
      up.length + 1 ≤ m + d ∧ m ≤ up.length + 1 ∧ done.length ≤ 1000 + e * (13 - m) ∧ done ++ gr up (up.length + 1) f e m l = gr up (up.length + 1) f e (up.length + 1) (kids up (up.length + 1) f [f])) (up.length + 1)
    ⟨[], kids up (up.length + 1) f [f], 1, pf, none, rfl, .ex (e1.trans e2), e2 _ _ h1, h2, (fun z => by rw [z, h1] at nf; cases nf), pl_kids, kids_rise, (kids_dep (d := 0) fun r hr => by rw [List.mem_singleton.mp hr, dd_self]), by omega, Nat.le_refl _, Nat.zero_le _, rfl⟩ ?_
  rintro m σ' H' ⟨done, l, d, pf, v4, rfl, en, hp, hl, ne, pl, rise, hd, hm, hm2, dl, eq⟩
  have W1 := W.monoN en
  have ll : ((I l).map V.int).length = l.length := by rw [List.length_map, I_len]
  have l12 : l.length ≤ 12 := Nat.le_trans pl.len n12
  refine ⟨_, et_test (ev_op (ev_len (ev_var rfl) (sq_of hl)) ev_c rv_I0), fun c H3 e3 => ?_, fun c H3 e3 => ?_⟩
  · rw [decide_eq_true_eq, ll] at c
    have lne : l ≠ [] := fun z => by rw [z] at c; exact absurd c (Int.lt_irrefl _)
    obtain ⟨m, rfl⟩ : ∃ m', m = m' + 1 := by
      cases m with
      | zero => exact absurd (deep_nil hf pl hd (by omega)) lne
      | succ m => exact ⟨m, rfl⟩
    have en3 := en.trans (.ex e3)
    rw [gr_step lne] at eq
    refine ⟨fun σ2 H2 => ∃ (done l : List Nat) (d : Nat) (pf : Addr) (v4 : Option V), σ2 = [some (.ref w), some (.int (e : Int)), some (.ref pp), some (.ref pf), v4] ∧ EN L H H2 ∧ H2 pp = some (nl done) ∧ H2 pf = some (nl l) ∧ pf ≠ pp ∧ Pl (up.length + 1) l ∧ l.Pairwise (· < ·) ∧ (∀ p ∈ l, dd up f p = d) ∧
        up.length + 1 ≤ m + d ∧ m ≤ up.length + 1 ∧ done.length ≤ 1000 + e * (13 - m) ∧ done ++ gr up (up.length + 1) f e m l = gr up (up.length + 1) f e (up.length + 1) (kids up (up.length + 1) f [f]), fun σ2 H2 x => ⟨m, Nat.lt_succ_self _, x⟩, ?_⟩
    -- chosen = sorted(front, ..)[:each]
    have W3 := W1.mono e3
    obtain ⟨so1, so2⟩ := srt_ok (S := sz up (up.length + 1) f) rise
    refine q_sortCut (ev_var rfl) (e3 _ _ hl) rfl W3 pl rise (en3.tk ht) (fun H1 => ev_var rfl) fun pc H4 en4 nc h4 => ?_
    have hl4 := en4.keep _ _ (e3 _ _ hl) nt_lst
    have hp4 := en4.keep _ _ (e3 _ _ hp) nt_lst
    have cp : pc ≠ pp := nc.ne (e3 _ _ hp) nt_lst
    have tl : ((srt (sz up (up.length + 1) f) l).take e).length ≤ e := List.length_take_le _ _
    have e13 : e * (13 - m) = e * (13 - (m + 1)) + e := by
      rw [show 13 - m = (13 - (m + 1)) + 1 by omega, Nat.mul_add, Nat.mul_one]
    have eb : e * (13 - (m + 1)) ≤ 2 * 13 := Nat.mul_le_mul (by omega) (by omega)
    refine q_ext hp4 h4 (ev_var rfl) (ev_var rfl) (by rw [List.length_map, List.length_map, I_len, I_len]; omega) fun H5 e5 => ?_
    have es : (I done).map V.int ++ (I ((srt (sz up (up.length + 1) f) l).take e)).map V.int = (I (done ++ (srt (sz up (up.length + 1) f) l).take e)).map V.int := by rw [I_append, List.map_append]
    rw [es]
    have en5 : EN L H (upd H5 pp (.lst ((I (done ++ (srt (sz up (up.length + 1) f) l).take e)).map V.int))) := EN.mut ((en3.trans en4).trans (.ex e5)) nwp (e5 _ _ hp4)
    have W5 := W.monoN en5
    refine s_asgL (el_call (ea_cons (ev_var rfl) (ea_cons (ev_var rfl) (ea_cons (ev_var rfl) ea_nil))) (spl_front_behind W5 ((upd_ne ne).trans (e5 _ _ hl4)) ((upd_ne cp).trans (e5 _ _ h4)) l12)) fun pn H6 nn e6 h6 => ?_
    refine ⟨done ++ (srt (sz up (up.length + 1) f) l).take e, kids up (up.length + 1) f (out l ((srt (sz up (up.length + 1) f) l).take e)), d + 1, pn, some (.ref pc), rfl, en5.trans (.ex e6), e6 _ _ upd_same, h6, (fun z => by rw [z, upd_same] at nn; cases nn), pl_kids, kids_rise, kids_dep fun r hr => hd r (out_mem.mp hr).1, by omega, by omega, ?_, by rw [List.append_assoc]; exact eq⟩
    rw [List.length_append]
    omega
  · rw [decide_eq_false_iff_not, ll] at c
    have l0 : l = [] := List.length_eq_zero_iff.mp (by omega)
    rw [l0, gr_nil, List.append_nil] at eq
    refine s_ret (ev_var rfl) fun H4 e4 => q pp H4 (en.trans (.ex (e3.trans e4))) ?_
    rw [← eq]
    exact e4 _ _ (e3 _ _ hp)
end
end FS

set_option maxRecDepth 100000
set_option maxHeartbeats 4000000
namespace FS
open PySem PySem.Spec PyProof.Rows L2 Evl
open Su121 (Abs)
/-! # The questions, one by one -/
section
variable {K : PySem.W.Frag} {mg : Str → Option Value} {L : Locs} {D : Ends} {σ : L2.St} {H H1 : Hp} {tu tz : TS} {te ta tb : TE} {a : Addr} {A A1 : Adr} {d d1 : Dat} {Q : VK} {x : Abs}
theorem el_catLL {xs ys : List V} (ha : EvL ta σ H xs) (hb : EvL tb σ H ys) (hz : xs.length + ys.length ≤ 100000) : EvL (tOp rCat ta tb) σ H (xs ++ ys) := fun H1 e Q q =>
  ha H1 e _ fun p H2 hp e2 h2 => hb H2 (e.trans e2) _ fun r H3 hr e3 h3 => ⟨p, r, xs, ys, rfl, rfl, e3 _ _ h2, h3, sz_of hz, fun l hl => q l _ (fresh_back (e2.trans e3) hl) ((e2.trans e3).trans (Ex.new hl)) upd_same⟩
/-- return f(..); x = f(..) -/
theorem ret_call {sp : Sp} {dvs vs : List V} {E : XK} {ts : TA} (h : EvA ts σ H vs) (k : ∀ H1, Ex H H1 → sp (vs ++ dvs) H1 D.rt E) : tRet (tCall sp dvs E ts) D σ H := h H (Ex.refl H) _ k
theorem q_asgC {i : Nat} {sp : Sp} {dvs vs : List V} {E : XK} {ts : TA} (h : EvA ts σ H vs) (k : ∀ H1, Ex H H1 → sp (vs ++ dvs) H1 (fun v H2 => tz D (σ.set i (some v)) H2) E) : tSeq (tAsg (tCall sp dvs E ts) (gName i)) tz D σ H := h H (Ex.refl H) _ k
theorem ret_call2E {sp : Sp} {E : XK} {v : V} {ns : List Nat} (h1 : Ev ta σ H v) (h2 : EvE tb σ H ns) (k : ∀ p H1, Ex H H1 → H1 p = some (nl ns) → sp [v, .ref p] H1 D.rt E) : tRet (tCall sp [] E (tCons ta (tCons tb tNil))) D σ H :=
  h1 H (Ex.refl H) _ fun H1 e1 => h2 H1 e1 _ fun p H2 e2 h => k p H2 (e1.trans e2) h
theorem up_len (o : Ok x) : x.tree.up.length ≤ 11 := by
  have := o.n12
  have : x.n = x.tree.up.length + 1 := rfl
  omega
theorem pure_state (T : Txt K mg L) (vs : List V) (H : Hp) (Q : VK) (E : XK) (h : sp_state K L vs H Q E) : t_state K L (En Q) (start N_state vs) H := by
  obtain ⟨a, A, x, rfl, hs, o, k⟩ := h
  have ul := up_len o
  refine ret_stp (Stp.refl hs) k (el_is (el_catLL (xs := [.int (x.n : Int), .int (x.fire : Int), .int (x.each : Int), .int (x.used : Int)]) (ys := (I x.tree.up).map V.int)
    (el_lst (ea_cons (ev_joinedLen T hs (ev_var rfl)) (ea_cons (ev_origin T hs (ev_var rfl)) (ea_cons (ev_each T hs (ev_var rfl)) (ea_cons (ev_used T hs (ev_var rfl)) ea_nil)))) (by show 4 ≤ 100000; decide))
    (el_is (el_sl (ev_joined T hs (ev_var rfl)) (eo_some ev_c) eo_none (sq_of hs.jl)) (cut_tail _ _)) ?_) rfl)
  rw [List.length_map, I_len]
  show 4 + _ ≤ _
  omega
theorem pure_ways_now (T : Txt K mg L) (vs : List V) (H : Hp) (Q : VK) (E : XK) (h : sp_ways_now K L vs H Q E) : t_ways_now K L (En Q) (start N_ways_now vs) H := by
  obtain ⟨a, A, x, rfl, hs, o, k⟩ := h
  exact ret_call (ea_cons (ev_joined T hs (ev_var rfl)) (ea_cons (ev_origin T hs (ev_var rfl)) ea_nil)) fun H1 e1 => ⟨A.aj, x.tree.up, x.fire, rfl, (hs.mono e1).jl, o.wf, o.n12, o.fire, fun w B ord H2 e2 W => k w B ord H2 (e1.trans e2) W⟩
theorem ew_now {E : XK} (hs : SesAt L.C_Session H a A (dat x)) (o : Ok x) (h : Ev ta σ H (.ref a)) : EvW L (tCall (sp_ways_now K L) [] E (tCons ta tNil)) σ H x.tree.up x.fire := fun H1 e Q q =>
  (ea_cons h ea_nil) H1 e _ fun H2 e2 => ⟨a, A, x, rfl, hs.mono (e.trans e2), o, fun w B ord H3 e3 W => q w B ord H3 (e2.trans e3) W⟩
theorem pure_are_in_range (T : Txt K mg L) (vs : List V) (H : Hp) (Q : VK) (E : XK) (h : sp_are_in_range K L vs H Q E) : t_are_in_range K L (En Q) (start N_are_in_range vs) H := by
  obtain ⟨a, A, x, r, row, rfl, hs, o, hr, hl, k⟩ := h
  refine s_ret (ev_is (ev_andV (ev_op (ev_len (ev_var rfl) (sq_of hr)) ev_c rv_I0) fun _ => ev_all (bs := row.map fun p => x.isP p) (el_is (el_lcMap (ns := I row) (fun z => .bl (decide (z < ((dat x).joined.length : Int)))) (ev_var rfl) (sq_of hr) (by rw [I_len]; omega) (fun _ => rfl)
    fun z H1 hz e1 => ev_call (ea_cons (ev_var rfl) (ea_cons (ev_var rfl) ea_nil)) (spv_is_place (hs.mono e1))) ?_)) ?_) k
  · unfold FS.I
    rw [List.map_map, List.map_map]
    refine List.map_congr_left fun p _ => ?_
    show V.bl (decide ((p : Int) < ((dat x).joined.length : Int))) = V.bl (x.isP p)
    rw [dat_len]
    exact congrArg V.bl (decide_eq_decide.mpr (by omega))
  · rw [List.length_map, I_len, List.all_map]
    congr 2
    exact decide_eq_decide.mpr (by omega)
theorem pure_at_beginning (T : Txt K mg L) (vs : List V) (H : Hp) (Q : VK) (E : XK) (h : sp_at_beginning K L vs H Q E) : t_at_beginning K L (En Q) (start N_at_beginning vs) H := by
  obtain ⟨a, A, x, rfl, hs, o, k⟩ := h
  refine q_make ea_nil fun H0 e0 t dx nt ndx ne => ⟨t, dx, rfl, upd_same, (upd_ne ne).trans upd_same, fun H1 B s1 keep nj nb ns => ⟨rfl, ?_⟩⟩
  have u := @NdefX.upd_none
  have un : ∀ {b : Addr}, upd (upd H0 dx (.own t)) t (.ins L.C_Session dx []) b = none → H b = none := fun q => fresh_back e0 (u (u q))
  have tn : H t = none := fresh_back e0 nt
  have ex1 : Ex H H1 := fun b ob hb => by
    have n1 := ne_of_none (e0 _ _ hb) nt
    exact keep b ob ((upd_ne n1).trans ((upd_ne (ne_of_none (e0 _ _ hb) ndx)).trans (e0 _ _ hb))) n1
  have hs1 := hs.mono ex1
  refine q_fldL (el_list (ev_joined T hs1 (ev_var rfl)) (sq_of hs1.jl)) (ev_var rfl) s1.ins T.cl_Session T.a_Session_joined fs_len fun p H2 np e2 h2 => ?_
  have pn : H p = none := fresh_back ex1 np
  have s2 := (s1.mono e2).setJoined h2 (fun z => by rw [z, s1.sl] at np; cases np) (fun z => by rw [z, s1.bl] at np; cases np)
  have ex2 : ∀ ob, Ex H (upd H2 t ob) := fun ob => (ex1.trans e2).mut tn
  refine q_fld (ev_origin T (hs.mono (ex2 _)) (ev_var rfl)) (ev_var rfl) s2.ins T.cl_Session T.a_Session_origin fs_len fun H3 e3 => ?_
  have s3 := (s2.mono e3).setOrigin (dat x).origin
  have ex3 : ∀ ob, Ex H (upd H3 t ob) := fun ob => ((ex2 _).trans e3).mut tn
  refine q_fld (ev_each T (hs.mono (ex3 _)) (ev_var rfl)) (ev_var rfl) s3.ins T.cl_Session T.a_Session_each fs_len fun H4 e4 => ?_
  have s4 := (s3.mono e4).setEach (dat x).each
  have ex4 : ∀ ob, Ex H (upd H4 t ob) := fun ob => ((ex3 _).trans e4).mut tn
  refine q_do (ea_cons (ev_var rfl) ea_nil) fun H5 e5 => ⟨t, _, _, rfl, s4.mono e5, fun A6 H6 st => ?_⟩
  have ex5 := (ex4 _).trans e5
  refine s_ret (ev_var rfl) fun H7 e7 => ?_
  have en : EN L H H6 := ⟨fun b ob hb nt => st.kept.keep b ob (ex5 _ _ hb) nt (ne_of_none hb tn) (ne_of_none hb pn) (ne_of_none hb (un ns)), fun h => st.kept.tk (TK.ex ex5 h)⟩
  have back : ∀ {b c : Addr}, (b = c ∨ Nw H5 b) → H c = none → Nw H b := fun h hc => h.elim (fun z => by rw [z]; exact nw_of hc) fun z => Grow.ex ex5 _ z
  exact k t A6 H7 (en.trans (.ex e7)) (nw_of tn) (back st.kept.aj pn) (back st.kept.ab (un nb)) (back st.kept.as (un ns)) (st.ses.mono e7)
/-! ### what the best keeps -/
theorem kb_eq (o : Ok x) {p : Nat} (hp : p < x.n) (e : Nat) : kb x p e = sm (sz x.tree.up (x.tree.up.length + 1) p) (bs x.tree.up (x.tree.up.length + 1) p e (x.tree.up.length + 1) (kids x.tree.up (x.tree.up.length + 1) p [p])) := by
  obtain ⟨h1, h2⟩ := best_eq (x := { x with fire := p, each := e }) o.wf hp
  unfold kb
  rw [h2, h1]
  rfl
theorem kb_le (p e : Nat) : kb x p e ≤ x.n := by
  have : kb x p e ≤ (List.range (Abs.paths { x with fire := p, each := e }).length).length := List.length_filter_le _ _
  rw [List.length_range, paths_len] at this
  exact this
theorem ee_best_row {E : XK} {w : Addr} {B : WAdr} {up : List Nat} {f e : Nat} {ord : List Nat} (W : WaysAt L.C_Ways H w B up f ord) (he : e = 1 ∨ e = 2) (h1 : Ev ta σ H (.ref w)) (h2 : Ev tb σ H (.int (e : Int))) :
    EvE (tCall (sp_best_row K L) [] E (tCons ta (tCons tb tNil))) σ H (bs up (up.length + 1) f e (up.length + 1) (kids up (up.length + 1) f [f])) := fun H1 e1 Q q =>
  (ea_cons h1 (ea_cons h2 ea_nil)) H1 e1 _ fun H2 e2 => ⟨w, B, up, f, ord, e, rfl, W.mono (e1.trans e2), he, fun p H3 e3 h3 => q p H3 (e2.trans e3) h3⟩
theorem best_row_ok {up : List Nat} {f e : Nat} (hf : f < up.length + 1) (n12 : up.length + 1 ≤ 12) : (∀ p ∈ bs up (up.length + 1) f e (up.length + 1) (kids up (up.length + 1) f [f]), p < up.length + 1) ∧ (bs up (up.length + 1) f e (up.length + 1) (kids up (up.length + 1) f [f])).length ≤ 1000 :=
  ⟨bs_lt _ _ pl_kids, Nat.le_trans (bs_len hf n12 _ pl_kids) (by decide)⟩
theorem pure_most_kept (T : Txt K mg L) (vs : List V) (H : Hp) (Q : VK) (E : XK) (h : sp_most_kept K L vs H Q E) : t_most_kept K L (En Q) (start N_most_kept vs) H := by
  obtain ⟨a, A, x, p, e, rfl, hs, o, hp, he, k⟩ := h
  refine q_asgW (L := L) (up := x.tree.up) (f := p) (fun H1 e1 Q q => (ea_cons (ev_joined T (hs.mono e1) (ev_var rfl)) (ea_cons (ev_var rfl) ea_nil)) H1 (Ex.refl _) _ fun H2 e2 => ⟨A.aj, x.tree.up, p, rfl, ((hs.mono e1).mono e2).jl, o.wf, o.n12, hp, fun w B ord H3 e3 W => q w B ord H3 (e2.trans e3) W⟩) fun w B ord H1 e1 W => ?_
  obtain ⟨b1, b2⟩ := best_row_ok (up := x.tree.up) (e := e) hp o.n12
  refine ret_call2E (ev_var rfl) (ee_best_row W he (ev_var rfl) (ev_var rfl)) fun q H3 e3 h3 => ⟨w, B, x.tree.up, p, ord, q, _, rfl, W.mono e3, h3, b1, b2, fun H4 e4 => ?_⟩
  have g := k H4 ((e1.trans e3).trans e4)
  rw [kb_eq o hp] at g
  exact g
theorem spv_most_kept {p e : Nat} (hs : SesAt L.C_Session H a A (dat x)) (o : Ok x) (hp : p < x.n) (he : e = 1 ∨ e = 2) : SpV (sp_most_kept K L) [.ref a, .int ((p : Nat) : Int), .int ((e : Nat) : Int)] H (.int ((kb x p e : Nat) : Int)) :=
  fun H1 e1 Q q E => ⟨a, A, x, p, e, rfl, hs.mono e1, o, hp, he, q⟩
theorem pure_most_by_origin (T : Txt K mg L) (vs : List V) (H : Hp) (Q : VK) (E : XK) (h : sp_most_by_origin K L vs H Q E) : t_most_by_origin K L (En Q) (start N_most_by_origin vs) H := by
  obtain ⟨a, A, x, rfl, hs, o, k⟩ := h
  have n12 := o.n12
  refine s_retL (el_is (el_lcR1 (fun _ => true) (fun p => .int ((kb x p x.each : Nat) : Int)) (ea_cons (ev_joinedLen T hs (ev_var rfl)) ea_nil) (by omega) (fun _ => rfl) (fun p H1 e1 hp H2 e2 Q q => q H2 (Ex.refl _)) (fun p H1 e1 hp _ => ?_)) ?_) k
  · have hs1 := hs.mono e1
    exact ev_call (ea_cons (ev_var rfl) (ea_cons (ev_var rfl) (ea_cons (ev_each T hs1 (ev_var rfl)) ea_nil))) (spv_most_kept hs1 o (by omega) o.each)
  · rw [show ((x.n : Nat) : Int).toNat = x.n from rfl, given_all]
    unfold FS.I Su121.Abs.ps Su115.Abs.ps
    rw [List.map_map, List.map_map]
    rfl
theorem spl_most_by_origin (hs : SesAt L.C_Session H a A (dat x)) (o : Ok x) : SpL (sp_most_by_origin K L) [.ref a] H ((I (x.ps.map x.at_)).map V.int) := fun H1 e Q q E => ⟨a, A, x, rfl, hs.mono e, o, q⟩
theorem pure_best (T : Txt K mg L) (vs : List V) (H : Hp) (Q : VK) (E : XK) (h : sp_best K L vs H Q E) : t_best K L (En Q) (start N_best vs) H := by
  obtain ⟨a, A, x, rfl, hs, o, k⟩ := h
  refine q_asgW (ew_now hs o (ev_var rfl)) fun w B ord H1 e1 W => ?_
  have hs1 := hs.mono e1
  refine q_asgE (ee_best_row W o.each (ev_var rfl) (ev_each T hs1 (ev_var rfl))) fun p H2 e2 h2 => ?_
  obtain ⟨b1, b2⟩ := best_row_ok (up := x.tree.up) (e := x.each) o.fire o.n12
  obtain ⟨q1, q2⟩ := best_eq o.wf o.fire
  have q1' : x.best = bs x.tree.up (x.tree.up.length + 1) x.fire x.each (x.tree.up.length + 1) (kids x.tree.up (x.tree.up.length + 1) x.fire [x.fire]) := q1
  have q2' : x.kept x.best = sm (sz x.tree.up (x.tree.up.length + 1) x.fire) x.best := q2
  have W2 := W.mono e2
  refine ret_stp (Stp.refl hs |>.ex (e1.trans e2)) k (el_is (el_cat (xs := [.int ((x.kept x.best : Nat) : Int)]) (el_lst (ea_cons (ev_is (ev_call (ea_cons (ev_var rfl) (ea_cons (ev_var rfl) ea_nil)) (spv_count_kept W2 h2 b1 b2)) (by rw [← q1', ← q2'])) ea_nil) (by show 1 ≤ 100000; decide)) (fun H1 e => ev_var rfl) h2 ?_) ?_)
  · rw [List.length_map, I_len]
    show 1 + _ ≤ _
    omega
  · rw [← q1']
    rfl
theorem gf_ok {up : List Nat} {f e : Nat} (he : e = 1 ∨ e = 2) (n12 : up.length + 1 ≤ 12) : (∀ p ∈ gr up (up.length + 1) f e (up.length + 1) (kids up (up.length + 1) f [f]), p < up.length + 1) ∧ (gr up (up.length + 1) f e (up.length + 1) (kids up (up.length + 1) f [f])).length ≤ 1000 := by
  refine ⟨gr_lt _ _ kids_lt kids_rise, ?_⟩
  have := gr_len (up := up) (n := up.length + 1) (f := f) (e := e) (up.length + 1) (kids up (up.length + 1) f [f])
  have : e * (up.length + 1) ≤ 2 * 12 := Nat.mul_le_mul (by omega) n12
  omega
theorem pure_greedy (T : Txt K mg L) (vs : List V) (H : Hp) (Q : VK) (E : XK) (h : sp_greedy K L vs H Q E) : t_greedy K L (En Q) (start N_greedy vs) H := by
  obtain ⟨a, A, x, rfl, hs, o, ht, k⟩ := h
  refine q_asgW (ew_now hs o (ev_var rfl)) fun w B ord H1 e1 W => ?_
  have hs1 := hs.mono e1
  refine q_asgC (ea_cons (ev_var rfl) (ea_cons (ev_each T hs1 (ev_var rfl)) ea_nil)) fun H1' e1' => ⟨w, B, x.tree.up, x.fire, ord, x.each, rfl, W.mono e1', o.each, TK.ex (e1.trans e1') ht, fun p H2 en h2 => ?_⟩
  have en2 : EN L H H2 := (EN.ex (e1.trans e1')).trans en
  obtain ⟨b1, b2⟩ := gf_ok (up := x.tree.up) (f := x.fire) (e := x.each) o.each o.n12
  obtain ⟨q1, q2⟩ := greedy_eq o.wf o.fire
  have q1' : x.greedy = gr x.tree.up (x.tree.up.length + 1) x.fire x.each (x.tree.up.length + 1) (kids x.tree.up (x.tree.up.length + 1) x.fire [x.fire]) := q1
  have q2' : x.kept x.greedy = sm (sz x.tree.up (x.tree.up.length + 1) x.fire) x.greedy := q2
  have W2 := (W.mono e1').monoN en
  refine ret_stp (Stp.refl hs |>.exN en2) k (el_is (el_cat (xs := [.int ((x.kept x.greedy : Nat) : Int)]) (el_lst (ea_cons (ev_is (ev_call (ea_cons (ev_var rfl) (ea_cons (ev_var rfl) ea_nil)) (spv_count_kept W2 h2 b1 b2)) (by rw [← q1', ← q2'])) ea_nil) (by show 1 ≤ 100000; decide)) (fun H1 e => ev_var rfl) h2 ?_) ?_)
  · rw [List.length_map, I_len]
    show 1 + _ ≤ _
    omega
  · rw [← q1']
    rfl
end
end FS

set_option maxRecDepth 100000
set_option maxHeartbeats 4000000
namespace FS
open PySem PySem.Spec PyProof.Rows L2 Evl
open Su121 (Abs levelBy)
section
variable {K : PySem.W.Frag} {mg : Str → Option Value} {L : Locs} {D : Ends} {σ : L2.St} {H H1 : Hp} {tu tz : TS} {te ta tb : TE} {a : Addr} {A A1 : Adr} {d d1 : Dat} {Q : VK} {x : Abs}
/-- ways.sizes[p], ways.depths[p] of new ways -/
theorem ev_sizeW {p up f} (T : Txt K mg L) (h : EvW L ta σ H up f) (hp : p < up.length + 1) (hb : ∀ H1, Ev tb σ H1 (.int ((p : Nat) : Int))) : Ev (tOp (rIxL K) (tFld K ta "sizes") tb) σ H (.int ((sz up (up.length + 1) f p : Nat) : Int)) := fun H1 e Q q =>
  h H1 e _ fun w B o H2 e2 W => ⟨w, _, _, _, _, rfl, W.g.ins, T.cl_Ways, T.a_Ways_sizes, wfs_sizes, (hb H2) H2 (Ex.refl _) _ fun H3 e3 => ⟨B.s, _, (p : Int), _, rfl, rfl, sq_of (W.mono e3).g.sl, atI_nat (nl_at (range_map_at _ hp)), q H3 (e2.trans e3)⟩⟩
theorem ev_depthW {p up f} (T : Txt K mg L) (h : EvW L ta σ H up f) (hp : p < up.length + 1) (hb : ∀ H1, Ev tb σ H1 (.int ((p : Nat) : Int))) : Ev (tOp (rIxL K) (tFld K ta "depths") tb) σ H (.int ((dd up f p : Nat) : Int)) := fun H1 e Q q =>
  h H1 e _ fun w B o H2 e2 W => ⟨w, _, _, _, _, rfl, W.g.ins, T.cl_Ways, T.a_Ways_depths, wfs_depths, (hb H2) H2 (Ex.refl _) _ fun H3 e3 => ⟨B.d, _, (p : Int), _, rfl, rfl, sq_of (W.mono e3).g.dl, atI_nat (nl_at (range_map_at _ hp)), q H3 (e2.trans e3)⟩⟩
theorem q_asgDepths {i up f} (T : Txt K mg L) (h : EvW L ta σ H up f) (k : ∀ w B o H1, Ex H H1 → WaysAt L.C_Ways H1 w B up f o → tz D (σ.set i (some (.ref B.d))) H1) : tSeq (tAsg (tFld K ta "depths") (gName i)) tz D σ H :=
  h H (Ex.refl H) _ fun w B o H2 e2 W => ⟨w, _, _, _, _, rfl, W.g.ins, T.cl_Ways, T.a_Ways_depths, wfs_depths, k w B o H2 e2 W⟩
theorem isP_lt {p : Nat} (h : ¬ x.isP p = false) : p < x.n := by
  unfold Su121.Abs.isP at h
  simpa using h
theorem pure_size (T : Txt K mg L) (vs : List V) (H : Hp) (Q : VK) (E : XK) (h : sp_size K L vs H Q E) : t_size K L (En Q) (start N_size vs) H := by
  obtain ⟨a, A, x, p, rfl, hs, o, k⟩ := h
  rw [show Su121.does x (.size p) = if x.isP p = false then (x, Su121.no (-2)) else (x, Su121.num (x.size p) []) from rfl] at k
  refine q_when (et_not (et_place hs (ev_var rfl) (ev_var rfl))) (fun c H1 e1 => ?_) (fun c H1 e1 => ?_)
  · rw [if_pos (by simpa using c)] at k
    exact ret_ref ((Stp.refl hs).ex e1) k ev_c
  have c' : ¬ x.isP p = false := by simpa using c
  rw [if_neg c'] at k
  have hp := isP_lt c'
  have hs1 := hs.mono e1
  refine ret_one ((Stp.refl hs).ex e1) k (ev_is (ev_sizeW T (ew_now hs1 o (ev_var rfl)) hp fun H1 => ev_var rfl) ?_)
  show _ = V.int (((Su121.sizeBy x.paths p : Nat)) : Int)
  rw [sizeBy_eq o.wf o.fire hp]
  rfl
theorem pure_deep (T : Txt K mg L) (vs : List V) (H : Hp) (Q : VK) (E : XK) (h : sp_deep K L vs H Q E) : t_deep K L (En Q) (start N_deep vs) H := by
  obtain ⟨a, A, x, p, rfl, hs, o, k⟩ := h
  rw [show Su121.does x (.deep p) = if x.isP p = false then (x, Su121.no (-2)) else (x, Su121.num (x.deep p) []) from rfl] at k
  refine q_when (et_not (et_place hs (ev_var rfl) (ev_var rfl))) (fun c H1 e1 => ?_) (fun c H1 e1 => ?_)
  · rw [if_pos (by simpa using c)] at k
    exact ret_ref ((Stp.refl hs).ex e1) k ev_c
  have c' : ¬ x.isP p = false := by simpa using c
  rw [if_neg c'] at k
  have hp := isP_lt c'
  have hs1 := hs.mono e1
  refine ret_one ((Stp.refl hs).ex e1) k (ev_is (ev_depthW T (ew_now hs1 o (ev_var rfl)) hp fun H1 => ev_var rfl) ?_)
  show _ = V.int (((x.tree.far x.fire p : Nat)) : Int)
  rw [far_eq o.wf o.fire hp]
theorem level_given (o : Ok x) (n : Nat) : given x.n (fun p => decide (dd x.tree.up x.fire p = n)) (fun p => .int (p : Int)) = (I (levelBy x.paths n [])).map V.int := by
  unfold given FS.I
  rw [List.map_map]
  congr 1
  have key := fun p => mem_level (x := x) o.wf o.fire (d := n) (s := []) (p := p)
  unfold levelBy at key ⊢
  rw [paths_len] at key ⊢
  refine List.filter_congr fun p hp => ?_
  have kp := key p
  rw [List.mem_filter] at kp
  rw [Bool.eq_iff_iff, decide_eq_true_eq]
  exact ⟨fun h => (kp.mpr ⟨List.mem_range.mp hp, h, fun ⟨q, hq, _⟩ => absurd hq List.not_mem_nil⟩).2, fun h => (kp.mp ⟨hp, h⟩).2.1⟩
theorem pure_level (T : Txt K mg L) (vs : List V) (H : Hp) (Q : VK) (E : XK) (h : sp_level K L vs H Q E) : t_level K L (En Q) (start N_level vs) H := by
  obtain ⟨a, A, x, n, rfl, hs, o, k⟩ := h
  have n12 := o.n12
  have hn : x.n = x.tree.up.length + 1 := rfl
  refine q_asgDepths T (ew_now hs o (ev_var rfl)) fun w B ord H1 e1 W => ?_
  have ll : (((I ((List.range (x.tree.up.length + 1)).map (dd x.tree.up x.fire))).map V.int).length : Int) = ((x.n : Nat) : Int) := by rw [List.length_map, I_len, List.length_map, List.length_range]; rfl
  refine ret_list (n := 0) ((Stp.refl hs).ex e1) k (el_callL (el_is (el_lcR1 (fun p => decide (dd x.tree.up x.fire p = n)) (fun p => .int (p : Int)) (ea_cons (ev_is (ev_len (ev_var rfl) (sq_of W.g.dl)) (congrArg V.int ll)) ea_nil) (by omega) (fun _ => rfl)
    (fun p H2 e2 hp => et_test (ev_is (ev_op (ev_op (ev_var rfl) (ev_var rfl) (rv_ixL (sq_of (W.mono e2).g.dl) (atI_nat (nl_at (range_map_at _ (show p < x.tree.up.length + 1 by omega)))))) (ev_var rfl) (rv_eq rfl)) ?_)) (fun p H2 e2 hp _ => ev_var rfl)) ?_) fun p H2 e2 h2 => spl_counted h2 ?_)
  · rw [eqI]
    exact congrArg V.bl (decide_eq_decide.mpr (by omega))
  · rw [show ((x.n : Nat) : Int).toNat = x.n from rfl, level_given o]
  · rw [I_len]
    have := (level_pl (x := x) n []).len
    omega
/-- a row or a set that may be told -/
theorem et_range {r : Addr} {row : List Nat} (hs : SesAt L.C_Session H a A (dat x)) (o : Ok x) (hr : H r = some (nl row)) (hl : row.length ≤ 14) (h1 : Ev ta σ H (.ref a)) (h2 : Ev tb σ H (.ref r)) :
    EvT (tB (tCall (sp_are_in_range K L) [] C8.E0 (tCons ta (tCons tb tNil)))) σ H (decide (row.length ≤ 12) && row.all fun p => x.isP p) :=
  et_B (ev_call (ea_cons h1 (ea_cons h2 ea_nil)) fun H1 e Q q E => ⟨a, A, x, r, row, rfl, hs.mono e, o, e _ _ hr, hl, q⟩)
theorem range_iff {row : List Nat} : (row.any (fun p => !(x.isP p)) = true ∨ Su121.PLACES < row.length) ↔ ¬ (decide (row.length ≤ 12) && row.all fun p => x.isP p) = true := by
  rw [Bool.and_eq_true, decide_eq_true_eq, List.all_eq_true, List.any_eq_true]
  show (_ ∨ 12 < row.length) ↔ _
  constructor
  · rintro (⟨p, h1, h2⟩ | h) ⟨h3, h4⟩
    · rw [h4 p h1] at h2; cases h2
    · omega
  · intro h
    by_cases c : 12 < row.length
    · exact .inr c
    · left
      refine Classical.byContradiction fun z => h ⟨by omega, fun p hp => ?_⟩
      cases e : x.isP p with
      | true => rfl
      | false => exact absurd ⟨p, hp, by rw [e]; rfl⟩ z
theorem ret_refL {ns : List Int} {nx : L2.St → Hp → Prop} (st : Stp L a A H A1 d1 H1) (k : RetC L a A H d1 ns Q) (h : EvL te σ H1 (ns.map V.int)) : tRet te { nx := nx, rt := Q } σ H1 :=
  s_retL (D := { nx := nx, rt := Q }) h fun p H2 hp e h2 => k p A1 H2 (st.grow _ (nw_of hp)) h2 (st.ex e)
theorem ev_beyond {E : XK} {r : Addr} {row : List Nat} {up f} (h : EvW L ta σ H up f) (hb : ∀ H1, Ev tb σ H1 (.ref r)) (hr : H r = some (nl row)) : Ev (tCall (sp_count_beyond K L) [] E (tCons ta (tCons tb tNil))) σ H (.int ((cov up (up.length + 1) f row : Nat) : Int)) := fun H1 e Q q =>
  h H1 e _ fun w B o H2 e2 W => (hb H2) H2 (Ex.refl _) _ fun H3 e3 => ⟨w, B, up, f, o, r, row, rfl, W.mono e3, e3 _ _ (e2 _ _ (e _ _ hr)), fun H4 e4 => q H4 ((e2.trans e3).trans e4)⟩
theorem pure_kept (T : Txt K mg L) (vs : List V) (H : Hp) (Q : VK) (E : XK) (h : sp_kept K L vs H Q E) : t_kept K L (En Q) (start N_kept vs) H := by
  obtain ⟨a, A, x, r, row, rfl, hs, o, hr, hl, k⟩ := h
  rw [show Su121.does x (.kept row) = if row.any (fun p => !(x.isP p)) = true ∨ Su121.PLACES < row.length then (x, Su121.no (-22)) else (x, Su121.num (x.kept row) []) from rfl] at k
  refine q_when (et_not (et_range hs o hr hl (ev_var rfl) (ev_var rfl))) (fun c H1 e1 => ?_) (fun c H1 e1 => ?_)
  · rw [if_pos (range_iff.mpr (by rw [Bool.not_eq_true'] at c; rw [c]; decide))] at k
    exact ret_ref ((Stp.refl hs).ex e1) k ev_c
  have c' : (decide (row.length ≤ 12) && row.all fun p => x.isP p) = true := by simpa using c
  rw [if_neg fun z => range_iff.mp z c'] at k
  have hs1 := hs.mono e1
  have hrow : ∀ p ∈ row, p < x.n := fun p hp => isP_lt (x := x) (by
    rw [Bool.and_eq_true, List.all_eq_true] at c'
    rw [c'.2 p hp]
    decide)
  refine ret_one ((Stp.refl hs).ex e1) k (ev_is (ev_beyond (ew_now hs1 o (ev_var rfl)) (fun H1 => ev_var rfl) (e1 _ _ hr)) ?_)
  show _ = V.int (((Su121.keptBy x.paths row : Nat)) : Int)
  rw [keptBy_eq o.wf o.fire hrow]
  rfl
theorem pure_from_all (T : Txt K mg L) (vs : List V) (H : Hp) (Q : VK) (E : XK) (h : sp_from_all K L vs H Q E) : t_from_all K L (En Q) (start N_from_all vs) H := by
  obtain ⟨a, A, x, rfl, hs, o, k⟩ := h
  have n12 := o.n12
  refine ret_list (n := 0) (Stp.refl hs) k (el_callL (el_call1 (ev_var rfl) (spl_most_by_origin hs o)) fun p H1 e1 h1 => spl_counted h1 ?_)
  rw [I_len, List.length_map]
  show (List.range x.n).length ≤ _
  rw [List.length_range]
  omega
theorem min_at {l : List Nat} {m : Nat} (hm : m ∈ l) (hl : ∀ y ∈ l, m ≤ y) (h100 : m ≤ 100) : l.foldl min 100 = m := by
  have low : ∀ (l : List Nat) (c : Nat), (∀ y ∈ l, m ≤ y) → m ≤ c → m ≤ l.foldl min c := by
    intro l
    induction l with
    | nil => exact fun c _ h => h
    | cons y l ih => exact fun c h hc => ih (min c y) (fun z hz => h z (List.mem_cons_of_mem _ hz)) (Nat.le_min.mpr ⟨hc, h y (List.mem_cons_self ..)⟩)
  have dn : ∀ (l : List Nat) (c : Nat), l.foldl min c ≤ c := by
    intro l
    induction l with
    | nil => exact fun c => Nat.le_refl _
    | cons y l ih => exact fun c => Nat.le_trans (ih (min c y)) (Nat.min_le_left _ _)
  have up : ∀ (l : List Nat) (c : Nat), m ∈ l → l.foldl min c ≤ m := by
    intro l
    induction l with
    | nil => exact fun c h => absurd h List.not_mem_nil
    | cons y l ih =>
      intro c h
      cases h with
      | head => exact Nat.le_trans (dn l _) (Nat.min_le_right _ _)
      | tail _ h => exact ih _ h
  exact Nat.le_antisymm (up l 100 hm) (low l 100 hl h100)
theorem pure_worst (T : Txt K mg L) (vs : List V) (H : Hp) (Q : VK) (E : XK) (h : sp_worst K L vs H Q E) : t_worst K L (En Q) (start N_worst vs) H := by
  obtain ⟨a, A, x, rfl, hs, o, k⟩ := h
  have n12 := o.n12
  have ll : (x.ps.map x.at_).length = x.n := by
    rw [List.length_map]
    exact List.length_range
  have npos : 0 < x.n := Nat.lt_of_le_of_lt (Nat.zero_le _) o.fire
  refine q_asgL (el_call1 (ev_var rfl) (spl_most_by_origin hs o)) fun pm H1 np e1 h1 => ?_
  refine (ev_var (v := .ref pm) rfl) H1 (Ex.refl _) _ fun H2 e2 => ⟨pm, I (x.ps.map x.at_), rfl, sq_of (e2 _ _ h1), by rw [I_len, ll]; exact npos, fun m hm hle => ?_⟩
  obtain ⟨m, hm', rfl⟩ := of_I hm
  have hle' : ∀ y ∈ x.ps.map x.at_, m ≤ y := fun y hy => by
    have := hle (y : Int) (mem_I.mpr hy)
    omega
  have m100 : m ≤ 100 := by
    obtain ⟨p, _, ep⟩ := List.mem_map.mp hm'
    have : x.at_ p ≤ x.n := kb_le p x.each
    omega
  have mn := min_at hm' hle' m100
  have h2 := e2 _ _ h1
  have lm : ((((I (x.ps.map x.at_)).map V.int).length : Nat) : Int) = (x.n : Int) := by rw [List.length_map, I_len, ll]
  have atp : ∀ p, p < x.n → (x.ps.map x.at_)[p]? = some (x.at_ p) := fun p hp => range_map_at _ hp
  have cat := el_catLL (σ := [some (.ref a), some (.ref pm), some (.int (m : Int)), none]) (H := H2) (el_lst (ea_cons (ev_var (i := 2) rfl) ea_nil) (by show 1 ≤ 100000; decide)) (el_lcR1 (t := tTest (tOp rEq (tOp (rIxL K) (tVar 1) (tVar 3)) (tVar 2))) (te := tVar 3) (j := 3) (vs := [3]) (fun p => decide (x.at_ p = m)) (fun p => .int (p : Int)) (ea_cons (ev_is (ev_len (K := K) (ev_var (i := 1) rfl) (sq_of h2)) (congrArg V.int lm)) ea_nil) (by omega) (fun _ => rfl)
    (fun p H3 e3 hp => et_test (ev_is (ev_op (ev_op (ev_var rfl) (ev_var rfl) (rv_ixL (v := .int ((x.at_ p : Nat) : Int)) (sq_of (e3 _ _ h2)) (atI_nat (nl_at (atp p (by omega)))))) (ev_var rfl) (rv_eq rfl)) (by rw [eqI]; exact congrArg V.bl (decide_eq_decide.mpr (by omega))))) (fun p H3 e3 hp _ => ev_var rfl)) (by
      have := given_len ((x.n : Nat) : Int).toNat (fun p => decide (x.at_ p = m)) (fun p => .int (p : Int))
      rw [show ((x.n : Nat) : Int).toNat = x.n from rfl] at this
      have l1 : 1 + (given ((x.n : Nat) : Int).toNat (fun p => decide (x.at_ p = m)) (fun p => .int (p : Int))).length ≤ 100000 := by
        rw [show ((x.n : Nat) : Int).toNat = x.n from rfl]
        omega
      exact l1)
  refine ret_stp ((Stp.refl hs).ex (e1.trans e2)) k (el_is cat ?_)
  show V.int (m : Int) :: given ((x.n : Nat) : Int).toNat _ _ = V.int (((x.ps.map x.at_).foldl min 100 : Nat) : Int) :: (I (x.ps.filter fun p => (x.ps.map x.at_).getD p 0 == (x.ps.map x.at_).foldl min 100)).map V.int
  rw [mn]
  congr 1
  unfold given FS.I
  rw [List.map_map]
  show _ = ((List.range x.n).filter _).map _
  congr 1
  refine List.filter_congr fun p hp => ?_
  rw [List.getD_eq_getElem?_getD, atp p (List.mem_range.mp hp), Bool.eq_iff_iff, decide_eq_true_eq, beq_iff_eq]
  exact Iff.rfl
/-- [e for x in (a new tuple)] -/
theorem el_lcNU {xs : List V} {tl : TE} {j : Nat} {vs : List Nat} (v : Nat → V) (h : EvU tl σ H xs) (hz : xs.length ≤ 40000) (hw : ∀ y, wipe ((wipe σ vs).set j (some y)) vs = wipe σ vs)
    (he : ∀ (i : Nat) (y : V) H1, Ex H H1 → xs[i]? = some y → Ev te ((wipe σ vs).set j (some y)) H1 (v i)) : EvL (tLc (iTup K tl) (gName j) tYes te vs) σ H ((List.range xs.length).map v) := fun H0 e Q q => h H0 e _ fun b H1 hb e1 hx => ⟨b, rfl, ⟨xs, st_of hx⟩, fun Dl hD =>
  lc_tup (xs := xs) (Cw H1 (fun _ => true) v Dl) ⟨hD, Ex.new hD, upd_same⟩ (fun i H' _ p => st_of (p.2.1 b _ hx)) (fun i y H' hi p => ⟨hw y, cw_turn p (by have := (List.getElem?_eq_some_iff.mp hi).1; omega) (fun H2 _ Q' q' => q' H2 (Ex.refl _)) fun _ => he i y H1 (e.trans e1) hi⟩)
    (fun H' p => by
      have g := q Dl H' (fresh_back e1 p.1) (e1.trans p.2.1)
      rw [← given_all] at g
      exact g p.2.2)⟩
theorem pure_mores (T : Txt K mg L) (vs : List V) (H : Hp) (Q : VK) (E : XK) (h : sp_mores K L vs H Q E) : t_mores K L (En Q) (start N_mores vs) H := by
  obtain ⟨a, A, x, rfl, hs, o, k⟩ := h
  refine ret_stp (Stp.refl hs) k (el_callL (xs := (I [kb x x.fire 1, kb x x.fire 2]).map V.int) (el_is (el_lcNU (xs := [V.int 1, V.int 2]) (fun i => .int ((kb x x.fire (i + 1) : Nat) : Int)) (eu_tup (ea_cons ev_c (ea_cons ev_c ea_nil)) (by show 2 ≤ 100000; decide)) (by show 2 ≤ 40000; decide) (fun _ => rfl) fun i y H1 e1 hi => ?_) rfl) fun p H1 e1 h1 => spl_counted h1 (by show 2 ≤ 1000; decide))
  have hs1 := hs.mono e1
  match i, hi with
  | 0, hi =>
    cases hi
    exact ev_call (ea_cons (ev_var rfl) (ea_cons (ev_origin T hs1 (ev_var rfl)) (ea_cons (ev_var rfl) ea_nil))) (spv_most_kept (p := x.fire) (e := 1) hs1 o o.fire (.inl rfl))
  | 1, hi =>
    cases hi
    exact ev_call (ea_cons (ev_var rfl) (ea_cons (ev_origin T hs1 (ev_var rfl)) (ea_cons (ev_var rfl) ea_nil))) (spv_most_kept (p := x.fire) (e := 2) hs1 o o.fire (.inr rfl))
  | i + 2, hi => simp at hi
end
end FS

set_option maxRecDepth 100000
set_option maxHeartbeats 4000000
namespace FS
open Su121 (Abs)
/-! ### a row played place by place is the row played turn by turn -/
def onE (y : Abs) : Abs := if y.used = y.each then y.spread else y
def sv (y : Abs) (p : Nat) : Abs := { y with saved := y.saved ++ [p], used := y.used + 1 }
def pr : Abs → List Nat → Option Abs
  | y, [] => some y
  | y, p :: l => if (onE y).burns.contains p || (onE y).saved.contains p then none else pr (sv (onE y) p) l
theorem onE_full {y : Abs} (h : y.used = y.each) : onE y = y.spread := if_pos h
theorem onE_not {y : Abs} (h : y.used ≠ y.each) : onE y = y := if_neg h
theorem pr_full {y : Abs} {p : Nat} {l : List Nat} (h : y.used = y.each) (e : y.each = 1 ∨ y.each = 2) : pr y (p :: l) = pr y.spread (p :: l) := by
  have : y.spread.used ≠ y.spread.each := by
    show 0 ≠ y.each
    omega
  unfold pr
  rw [onE_full h, onE_not this]
/-- at the end of so many turns as there are places it stands still -/
theorem gIter_lim {x : Abs} {bs : List Nat} (nd : bs.Nodup) (h : ∀ p ∈ bs, p < x.n) (p : Nat) : p ∈ gIter x (x.n + 1) bs ↔ p ∈ gIter x x.n bs := by
  by_cases c : ∃ i, i ≤ x.n ∧ (gIter x (i + 1) bs).length ≤ (gIter x i bs).length
  · obtain ⟨i, hi, hl⟩ := c
    have same : ∀ p, p ∈ goneOn x (gIter x i bs) ↔ p ∈ gIter x i bs := same_of_len (gIter_nd nd i) goneOn_nd (goneOn_sub (gIter_lt h i)) (by rw [← gIter_succ]; exact hl)
    have a1 : gIter x (x.n + 1) bs = gIter x (x.n + 1 - i) (gIter x i bs) := by rw [← gIter_add]; congr 1; omega
    have a2 : gIter x x.n bs = gIter x (x.n - i) (gIter x i bs) := by rw [← gIter_add]; congr 1; omega
    rw [a1, a2, gIter_still same, gIter_still same]
  · exfalso
    have up : ∀ i, i ≤ x.n + 1 → i ≤ (gIter x i bs).length := by
      intro i
      induction i with
      | zero => exact fun _ => Nat.zero_le _
      | succ i ih =>
        intro hi
        have h1 := ih (by omega)
        have h2 : ¬ (gIter x (i + 1) bs).length ≤ (gIter x i bs).length := fun z => c ⟨i, by omega, z⟩
        omega
    have := up (x.n + 1) (Nat.le_refl _)
    have := gIter_len nd h (x.n + 1)
    omega
/-- what a played row tells -/
def Same : Option Abs → Option Abs → Prop
  | none, none => True
  | some b, some z => b.burns.Nodup ∧ ∀ p, p ∈ b.burns ↔ p ∈ gIter z z.n z.burns
  | _, _ => False
structure Like (a y : Abs) : Prop where
  tree : a.tree = y.tree
  each : a.each = y.each
  saved : a.saved = y.saved
  burns : a.burns = y.burns
theorem Like.goneOn {a y : Abs} (h : Like a y) : goneOn a a.burns = FS.goneOn y y.burns := by
  rw [h.burns]
  exact goneOn_congr h.tree h.saved fun _ => Iff.rfl
theorem Like.spread {a y : Abs} (h : Like a y) : Like a.spread y.spread := ⟨h.tree, h.each, h.saved, h.goneOn⟩
theorem same_end {a y : Abs} (h : Like a y) (nd : y.burns.Nodup) (lt : ∀ p ∈ y.burns, p < y.n) : Same (some (a.spreads a.n)) (some y) := by
  have hn : a.n = y.n := by show a.tree.n = y.tree.n; rw [h.tree]
  have e : (a.spreads a.n).burns = gIter y y.n y.burns := by
    rw [(spreads_eq a.n a).1, gIter_congr h.tree h.saved, hn, h.burns]
  exact ⟨by rw [e]; exact gIter_nd nd _, fun p => by rw [e]⟩
theorem same_end1 {a y : Abs} (h : Like a y) (nd : y.burns.Nodup) (lt : ∀ p ∈ y.burns, p < y.n) : Same (some (a.spread.spreads a.n)) (some y) := by
  have hn : a.n = y.n := by show a.tree.n = y.tree.n; rw [h.tree]
  have e : (a.spread.spreads a.n).burns = gIter y (y.n + 1) y.burns := by
    rw [(spreads_eq a.n a.spread).1, gIter_congr (x := a.spread) (y := y) h.tree h.saved, hn]
    show gIter y y.n (FS.goneOn a a.burns) = gIter y y.n (FS.goneOn y y.burns)
    rw [h.goneOn]
  exact ⟨by rw [e]; exact gIter_nd nd _, fun p => by rw [e]; exact gIter_lim nd lt p⟩
theorem run_nil (a : Abs) : ∀ f, a.run f [] = some (a.spreads a.n)
  | 0 => if_pos rfl
  | f + 1 => if_pos rfl
theorem run_cons (a : Abs) (f p : Nat) (l : List Nat) : a.run (f + 1) (p :: l) = if ((p :: l).take a.each).any (fun p => a.burns.contains p || a.saved.contains p) || decide (¬ ((p :: l).take a.each).Nodup) then none else ({ a with saved := a.saved ++ (p :: l).take a.each } : Abs).spread.run f ((p :: l).drop a.each) := if_neg (by intro z; cases z)
theorem pr_cons {y : Abs} (p : Nat) (l : List Nat) (h : y.used ≠ y.each) : pr y (p :: l) = if y.burns.contains p || y.saved.contains p then none else pr (sv y p) l := by
  show (if (onE y).burns.contains p || (onE y).saved.contains p then none else pr (sv (onE y) p) l) = _
  rw [onE_not h]
/-- all is saved that could be -/
theorem full_none {y : Abs} (snd : y.saved.Nodup) (slt : ∀ p ∈ y.saved, p < y.n) (hf : y.n ≤ y.saved.length) {p : Nat} (hp : p < y.n) (l : List Nat) (hu : y.used ≠ y.each) : pr y (p :: l) = none := by
  rw [pr_cons p l hu]
  have : y.saved.contains p = true := by
    rw [List.contains_iff_mem]
    refine Classical.byContradiction fun c => ?_
    have := nodup_le (l := p :: y.saved) (n := y.n) (List.nodup_cons.mpr ⟨c, snd⟩) (fun q hq => by
      cases hq with
      | head => exact hp
      | tail _ hq => exact slt q hq)
    rw [List.length_cons] at this
    omega
  rw [this, Bool.or_true, if_pos rfl]
theorem run_pr : ∀ (f : Nat) (l : List Nat) (a y : Abs), Like a y → y.used = 0 → (y.each = 1 ∨ y.each = 2) → y.burns.Nodup → (∀ p ∈ y.burns, p < y.n) → y.saved.Nodup → (∀ p ∈ y.saved, p < y.n) → y.n ≤ y.saved.length + f → (∀ p ∈ l, p < y.n) → Same (a.run f l) (pr y l)
  | f, [], a, y, h, hu, he, bnd, blt, snd, slt, hf, hl => by
    rw [run_nil]
    exact same_end h bnd blt
  | 0, p :: l, a, y, h, hu, he, bnd, blt, snd, slt, hf, hl => by
    rw [full_none snd slt (by omega) (hl p (List.mem_cons_self ..)) l (by omega), show a.run 0 (p :: l) = none from if_neg (by intro z; cases z)]
    exact trivial
  | f + 1, p :: l, a, y, h, hu, he, bnd, blt, snd, slt, hf, hl => by
    rw [run_cons, pr_cons p l (by omega), h.each, h.saved, h.burns]
    have hp := hl p (List.mem_cons_self ..)
    -- the rest, behind a whole turn
    have rest : ∀ (b z : Abs) (x r : List Nat), Like b { y with saved := y.saved ++ x, used := y.each } → z = { y with saved := y.saved ++ x, used := y.each } → 0 < x.length → (y.saved ++ x).Nodup → (∀ q ∈ x, q < y.n) → (∀ q ∈ r, q < y.n) → Same (b.spread.run f r) (pr z r) := by
      intro b z x r lk hz hx nd xlt rlt
      subst hz
      have slt' : ∀ q ∈ y.saved ++ x, q < y.n := fun q hq => (List.mem_append.mp hq).elim (slt q) (xlt q)
      cases r with
      | nil =>
        rw [run_nil]
        exact same_end1 lk bnd blt
      | cons q r =>
        rw [pr_full (y := { y with saved := y.saved ++ x, used := y.each }) rfl he]
        refine run_pr f (q :: r) _ _ lk.spread rfl he ?_ ?_ nd slt' ?_ rlt
        · exact goneOn_nd (x := { y with saved := y.saved ++ x, used := y.each }) (bs := y.burns)
        · exact goneOn_lt (x := { y with saved := y.saved ++ x, used := y.each }) (bs := y.burns)
        · show y.n ≤ (y.saved ++ x).length + f
          rw [List.length_append]
          omega
    cases hc : (y.burns.contains p || y.saved.contains p) with
    | true =>
      rw [if_pos rfl]
      have : ((p :: l).take y.each).any (fun p => y.burns.contains p || y.saved.contains p) = true := by
        rcases he with e | e
        · rw [e, List.take_succ_cons, List.any_cons, hc, Bool.true_or]
        · rw [e, List.take_succ_cons, List.any_cons, hc, Bool.true_or]
      rw [this, Bool.true_or, if_pos rfl]
      exact trivial
    | false =>
      rw [if_neg (c := false = true) (by decide)]
      have ps : p ∉ y.saved := fun m => by
        rw [Bool.or_eq_false_iff] at hc
        have : y.saved.contains p = true := List.contains_iff_mem.mpr m
        rw [this] at hc
        cases hc.2
      have nd1 : (y.saved ++ [p]).Nodup := List.nodup_append.mpr ⟨snd, List.nodup_cons.mpr ⟨List.not_mem_nil, List.nodup_nil⟩, fun q hq r hr e => by
        rw [List.mem_singleton.mp hr] at e
        subst e
        exact ps hq⟩
      have ul : ∀ q ∈ [p], q < y.n := fun q hq => by rw [List.mem_singleton.mp hq]; exact hp
      rcases he with e | e
      · rw [e, List.take_succ_cons, List.take_zero, List.any_cons, hc, List.any_nil, Bool.or_false, Bool.false_or, if_neg (by simp)]
        exact rest _ (sv y p) [p] l ⟨h.tree, e.symm, rfl, rfl⟩ (by unfold sv; rw [hu, e]) (by show 0 < 1; decide) nd1 ul fun q hq => hl q (List.mem_cons_of_mem _ hq)
      cases l with
      | nil =>
        rw [e, List.take_succ_cons, List.take_nil, List.any_cons, hc, List.any_nil, Bool.or_false, Bool.false_or, if_neg (by simp), show List.drop 2 [p] = [] from rfl, run_nil]
        exact same_end1 (y := sv y p) ⟨h.tree, e.symm, rfl, rfl⟩ bnd blt
      | cons q r =>
        have hq := hl q (List.mem_cons_of_mem _ (List.mem_cons_self ..))
        rw [pr_cons q r (by show y.used + 1 ≠ y.each; omega)]
        rw [e, show (p :: q :: r).take 2 = [p, q] from rfl, show (p :: q :: r).drop 2 = r from rfl, List.any_cons, hc, Bool.false_or, List.any_cons, List.any_nil, Bool.or_false]
        have cq : (sv y p).saved.contains q = (y.saved.contains q || decide (q = p)) := by
          show (y.saved ++ [p]).contains q = _
          rw [Bool.eq_iff_iff]
          simp
        have nq : decide (¬ [p, q].Nodup) = decide (q = p) := by
          rw [decide_eq_decide]
          simp
          exact eq_comm
        rw [nq, cq, ← Bool.or_assoc]
        show Same _ (if (y.burns.contains q || y.saved.contains q || decide (q = p)) = true then none else _)
        cases hd : (y.burns.contains q || y.saved.contains q || decide (q = p)) with
        | true =>
          rw [if_pos rfl, if_pos rfl]
          exact trivial
        | false =>
          rw [if_neg (c := false = true) (by decide), if_neg (c := false = true) (by decide)]
          rw [Bool.or_eq_false_iff, Bool.or_eq_false_iff] at hd
          have qs : q ∉ y.saved := fun m => by
            have : y.saved.contains q = true := List.contains_iff_mem.mpr m
            rw [this] at hd
            cases hd.1.2
          have qp : q ≠ p := by simpa using hd.2
          refine rest _ (sv (sv y p) q) [p, q] r ⟨h.tree, e.symm, rfl, rfl⟩ ?_ (by show 0 < 2; decide) ?_ ?_ ?_
          · unfold sv
            show ({ y with saved := y.saved ++ [p] ++ [q], used := y.used + 1 + 1 } : Abs) = _
            rw [hu, e, List.append_assoc]
            rfl
          · rw [show y.saved ++ [p, q] = (y.saved ++ [p]) ++ [q] by rw [List.append_assoc]; rfl]
            refine List.nodup_append.mpr ⟨nd1, List.nodup_cons.mpr ⟨List.not_mem_nil, List.nodup_nil⟩, fun u hu v hv e => ?_⟩
            rw [List.mem_singleton.mp hv] at e
            subst e
            rcases List.mem_append.mp hu with m | m
            · exact qs m
            · exact qp (List.mem_singleton.mp m)
          · intro u hu
            cases hu with
            | head => exact hp
            | tail _ hu => rw [List.mem_singleton.mp hu]; exact hq
          · exact fun u hu => hl u (List.mem_cons_of_mem _ (List.mem_cons_of_mem _ hu))
/-- how many burn in the end, how many never do -/
theorem same_len {b z : Abs} (h : Same (some b) (some z)) (hn : ∀ p ∈ b.burns, p < z.n) : z.safe.length + b.burns.length = z.n := by
  obtain ⟨nd, hb⟩ := h
  have es : z.safe = (List.range z.n).filter fun p => !b.burns.contains p := by
    unfold Su121.Abs.safe Su121.Abs.ps Su115.Abs.ps
    refine List.filter_congr fun p _ => ?_
    rw [(spreads_eq z.n z).1]
    congr 1
    rw [Bool.eq_iff_iff]
    simpa using (hb p).symm
  have eb : b.burns.length = ((List.range z.n).filter fun p => b.burns.contains p).length := by
    refine Nat.le_antisymm (nd.length_le_of_subset fun p hp => List.mem_filter.mpr ⟨List.mem_range.mpr (hn p hp), List.contains_iff_mem.mpr hp⟩) ?_
    have nd2 : ((List.range z.n).filter fun p => b.burns.contains p).Nodup := List.Pairwise.filter _ List.nodup_range
    exact nd2.length_le_of_subset fun p hp => List.contains_iff_mem.mp (List.mem_filter.mp hp).2
  have tot : ∀ (l : List Nat) (f : Nat → Bool), (l.filter fun p => !f p).length + (l.filter f).length = l.length := by
    intro l f
    induction l with
    | nil => rfl
    | cons p l ih =>
      cases e : f p with
      | true =>
        rw [List.filter_cons_of_neg (by rw [e]; decide), List.filter_cons_of_pos (by rw [e]), List.length_cons, List.length_cons]
        omega
      | false =>
        rw [List.filter_cons_of_pos (by rw [e]; decide), List.filter_cons_of_neg (by rw [e]; decide), List.length_cons, List.length_cons]
        omega
  rw [es, eb, tot, List.length_range]
end FS

set_option maxRecDepth 100000
set_option maxHeartbeats 4000000
namespace FS
open PySem PySem.Spec PyProof.Rows L2 Evl
open Su121 (Abs)
section
variable {K : PySem.W.Frag} {mg : Str → Option Value} {L : Locs} {D : Ends} {σ : L2.St} {H H1 H2 : Hp} {tu tz : TS} {te ta tb : TE} {a t : Addr} {A A1 A2 : Adr} {d d1 : Dat} {Q : VK} {x : Abs}
theorem EN.stp (e : EN L H H1) (nt : Nw H t) (nj : Nw H A1.aj) (ns : Nw H A1.as) (st : Stp L t A1 H1 A2 d H2) : EN L H H2 :=
  ⟨fun b o hb n => st.kept.keep b o (e.keep b o hb n) n (nt.ne hb n).symm (nj.ne hb n).symm (ns.ne hb n).symm, e.tk.trans st.kept.tk⟩
/-- a trial: another session, made since -/
structure Trial (L : Locs) (H : Hp) (t : Addr) (A1 : Adr) (H1 : Hp) (y : Abs) : Prop where
  en : EN L H H1
  nt : Nw H t
  nj : Nw H A1.aj
  nb : Nw H A1.ab
  ns : Nw H A1.as
  ses : SesAt L.C_Session H1 t A1 (dat y)
  ok : Ok y
theorem Trial.ex {y : Abs} (h : Trial L H t A1 H1 y) (e : Ex H1 H2) : Trial L H t A1 H2 y := ⟨h.en.trans (.ex e), h.nt, h.nj, h.nb, h.ns, h.ses.mono e, h.ok⟩
theorem Trial.stp {y z : Abs} (h : Trial L H t A1 H1 y) (st : Stp L t A1 H1 A2 (dat z) H2) (o : Ok z) : Trial L H t A2 H2 z :=
  ⟨h.en.stp h.nt h.nj h.ns st, h.nt, st.kept.aj.elim (fun z => z ▸ h.nj) (h.en.grow _), st.kept.ab.elim (fun z => z ▸ h.nb) (h.en.grow _), st.kept.as.elim (fun z => z ▸ h.ns) (h.en.grow _), st.ses, o⟩
/-- for p in a list of whole numbers -/
theorem q_forI {tl : TE} {j : Nat} {ns : List Nat} {r : Addr} (h : Ev tl σ H (.ref r)) (hr : H r = some (nl ns)) (Pv : Nat → L2.St → Hp → Prop) (h0 : ∀ H1, Ex H H1 → Pv 0 σ H1) (hl : ∀ i σ' H', Pv i σ' H' → H' r = some (nl ns))
    (hs : ∀ i p σ' H', ns[i]? = some p → Pv i σ' H' → tu { D with nx := Pv (i + 1), ct := Pv (i + 1), bk := tz D } (σ'.set j (some (.int ((p : Nat) : Int)))) H') (hd : ∀ σ' H', Pv ns.length σ' H' → tz D σ' H') : tSeq (tFor (iList K tl) (gName j) tu) tz D σ H := h H (Ex.refl H) _ fun H1 e1 =>
  ⟨r, rfl, ⟨_, sq_of (e1 _ _ hr)⟩, for_list (D := { D with nx := tz D }) (xs := (I ns).map V.int) Pv (h0 H1 e1) (fun i σ' H' _ pv => sq_of (hl i σ' H' pv)) (fun i x σ' H' hx pv => by
    obtain ⟨z, hz, rfl⟩ := get_map_int hx
    unfold FS.I at hz
    rw [List.getElem?_map] at hz
    cases e : ns[i]? with
    | none => rw [e] at hz; cases hz
    | some p =>
      rw [e] at hz
      obtain rfl : ((p : Nat) : Int) = z := Option.some.inj hz
      exact hs i p σ' H' e pv) fun σ' H' pv => by
    rw [List.length_map, I_len] at pv
    exact hd σ' H' pv⟩
theorem s_ifHd {sp : Sp} {E : XK} {ts : TA} {vs : List V} {tw : TS} (h : EvA ts σ H vs) (k : ∀ H1, Ex H H1 → sp (vs ++ []) H1 (fun v H2 => ∃ p xs i z, v = .ref p ∧ V.int 0 = .int i ∧ SqL K H2 p xs ∧ atI xs i = some z ∧ ∃ i j, z = .int i ∧ V.int 0 = .int j ∧ ∃ c, V.bl (decide (i < j)) = .bl c ∧ if c = true then tu D σ H2 else tw D σ H2) E) :
    tIfS (tTest (tOp (rI0 fun i j => .bl (decide (i < j))) (tOp (rIxL K) (tCall sp [] E ts) (tC (.int 0))) (tC (.int 0)))) tu tw D σ H := h H (Ex.refl H) _ k
theorem q_asgHd {sp : Sp} {E : XK} {ts : TA} {vs : List V} {j : Nat} (h : EvA ts σ H vs) (k : ∀ H1, Ex H H1 → sp (vs ++ []) H1 (fun v H2 => ∃ p xs i z, v = .ref p ∧ V.int 0 = .int i ∧ SqL K H2 p xs ∧ atI xs i = some z ∧ tz D (σ.set j (some z)) H2) E) :
    tSeq (tAsg (tOp (rIxL K) (tCall sp [] E ts) (tC (.int 0))) (gName j)) tz D σ H := h H (Ex.refl H) _ k
theorem s_do {sp : Sp} {E : XK} {ts : TA} {vs dvs : List V} (h : EvA ts σ H vs) (k : ∀ H1, Ex H H1 → sp (vs ++ dvs) H1 (fun _ H2 => D.nx σ H2) E) : tDrop (tCall sp dvs E ts) D σ H := h H (Ex.refl H) _ k
theorem spreads_lt {x : Abs} (h : ∀ p ∈ x.burns, p < x.n) (k : Nat) : ∀ p ∈ (x.spreads k).burns, p < x.n := by
  rw [(spreads_eq k x).1]
  exact gIter_lt h k
theorem run_lt' : ∀ (f : Nat) (l : List Nat) (y b : Abs), (∀ p ∈ y.burns, p < y.n) → y.run f l = some b → ∀ p ∈ b.burns, p < y.n
  | f, [], y, b, hy, h => by
    rw [run_nil] at h
    cases h
    exact spreads_lt hy _
  | 0, p :: l, y, b, hy, h => by
    rw [show y.run 0 (p :: l) = none from if_neg (by intro z; cases z)] at h
    cases h
  | f + 1, p :: l, y, b, hy, h => by
    rw [run_cons] at h
    split at h
    · cases h
    · exact run_lt' f ((p :: l).drop y.each) ({ y with saved := y.saved ++ (p :: l).take y.each } : Abs).spread b (goneOn_lt (x := { y with saved := y.saved ++ (p :: l).take y.each }) (bs := y.burns)) h
theorem drop_at {ns : List Nat} {i p : Nat} (h : ns[i]? = some p) : ns.drop i = p :: ns.drop (i + 1) := by
  obtain ⟨hi, e⟩ := List.getElem?_eq_some_iff.mp h
  rw [List.drop_eq_getElem_cons hi, e]
/-- what save answers -/
theorem does_save (y : Abs) (p : Nat) (hp : p < y.n) (hu : y.used < y.each) : (y.burns.contains p || y.saved.contains p) = true ∧ (∃ z, ansI (Su121.does y (.save p)).2 = [z] ∧ z < 0) ∨
    (y.burns.contains p || y.saved.contains p) = false ∧ (Su121.does y (.save p)).1 = sv y p ∧ ∃ z, ansI (Su121.does y (.save p)).2 = [z] ∧ ¬ z < 0 := by
  rw [show Su121.does y (.save p) = if y.isP p = false then (y, Su121.no (-2)) else if y.burns.contains p = true then (y, Su121.no (-33)) else if y.saved.contains p = true then (y, Su121.no (-17)) else if y.each ≤ y.used then (y, Su121.no (-28)) else ({ y with saved := y.saved ++ [p], used := y.used + 1 }, Su121.num y.saved.length.succ []) from rfl]
  have hi : ¬ y.isP p = false := by
    unfold Su121.Abs.isP
    simpa using hp
  rw [if_neg hi]
  cases hb : y.burns.contains p with
  | true => exact .inl ⟨rfl, -33, rfl, by decide⟩
  | false =>
    rw [if_neg (by decide)]
    cases hs : y.saved.contains p with
    | true => exact .inl ⟨rfl, -17, rfl, by decide⟩
    | false =>
      rw [if_neg (by decide), if_neg (by omega)]
      exact .inr ⟨rfl, rfl, _, rfl, by show ¬ (Int.ofNat _) < 0; exact Int.not_lt.mpr (Int.natCast_nonneg _)⟩
theorem pure_run (T : Txt K mg L) (vs : List V) (H : Hp) (Q : VK) (E : XK) (h : sp_run K L vs H Q E) : t_run K L (En Q) (start N_run vs) H := by
  obtain ⟨a, A, x, r, row, rfl, hs, o, hr, hl, k⟩ := h
  rw [show Su121.does x (.run row) = if row.any (fun p => !(x.isP p)) = true ∨ Su121.PLACES < row.length then (x, Su121.no (-22)) else (match x.fresh.run x.n row with
      | none => (x, Su121.no (-33))
      | some b => (x, Su121.num (x.n - b.burns.length) [b.burns.length])) from rfl] at k
  refine q_when (et_not (et_range hs o hr hl (ev_var rfl) (ev_var rfl))) (fun c H1 e1 => ?_) (fun c H1 e1 => ?_)
  · rw [if_pos (range_iff.mpr (by rw [Bool.not_eq_true'] at c; rw [c]; decide))] at k
    exact ret_ref ((Stp.refl hs).ex e1) k ev_c
  have c' : (decide (row.length ≤ 12) && row.all fun p => x.isP p) = true := by simpa using c
  rw [if_neg fun z => range_iff.mp z c'] at k
  have hrow : ∀ p ∈ row, p < x.n := fun p hp => isP_lt (x := x) (by
    rw [Bool.and_eq_true, List.all_eq_true] at c'
    rw [c'.2 p hp]
    decide)
  have of := o.fresh
  have same : Same (x.fresh.run x.n row) (pr x.fresh row) := run_pr x.n row x.fresh x.fresh ⟨rfl, rfl, rfl, rfl⟩ rfl o.each of.bnd of.burns of.snd of.saved (Nat.le_add_left _ _) hrow
  refine q_asgC (ea_cons (ev_var rfl) ea_nil) fun H2 e2 => ⟨a, A, x, rfl, (hs.mono e1).mono e2, o, fun t A1 H3 en nt nj nb ns s3 => ?_⟩
  have e12 := e1.trans e2
  have back : ∀ {b}, Nw H2 b → Nw H b := fun q => Grow.ex e12 _ q
  have tr : Trial L H t A1 H3 x.fresh := ⟨(EN.ex e12).trans en, back nt, back nj, back nb, back ns, s3, of⟩
  have fin : ∀ (A2 : Adr) (y : Abs) (v : Option V) (H4 : Hp), Trial L H t A2 H4 y → pr x.fresh row = some y → y.n = x.n →
      (tSeq (tAsg (tOp (rIxL K) (tCall (sp_safe K L) [] C8.E0 (tCons (tVar 2) tNil)) (tC (.int 0))) (gName 4))
        (tRet (tLst (tCons (tVar 4) (tCons (tOp (rI0 fun i j => .int (i - j)) (tCB (rLenS K) (tCons (tFld K (tVar 0) "joined") tNil)) (tVar 4)) tNil))))) (En Q) [some (.ref a), some (.ref r), some (.ref t), v, none] H4 := by
    intro A2 y v H4 tr e hn
    refine q_asgHd (ea_cons (ev_var rfl) ea_nil) fun H5 e5 => ⟨t, A2, y, rfl, tr.ses.mono e5, tr.ok, fun q A3 H6 nq hq st => ?_⟩
    have tr5 := tr.ex e5
    have en6 := tr5.en.stp tr5.nt tr5.nj tr5.ns st
    refine ⟨q, _, 0, .int (y.safe.length : Int), rfl, rfl, sq_of hq, show atI _ ((0 : Nat) : Int) = _ from atI_nat rfl, ?_⟩
    rw [e] at same
    cases hb : x.fresh.run x.n row with
    | none => rw [hb] at same; exact same.elim
    | some b =>
      rw [hb] at same k
      have len := same_len same (by rw [hn]; exact run_lt' x.n row x.fresh b of.burns hb)
      refine ret_two ((Stp.refl hs).exN en6) k (ev_is (ev_var rfl) ?_) (ev_is (ev_op (ev_joinedLen T (hs.monoN en6) (ev_var rfl)) (ev_var rfl) rv_I0) ?_)
      · show V.int _ = V.int ((x.n - b.burns.length : Nat) : Int)
        congr 1
        omega
      · show V.int ((x.n : Int) - (y.safe.length : Int)) = V.int (b.burns.length : Int)
        congr 1
        omega
  refine q_forI (ns := row) (ev_var rfl) (tr.en.keep _ _ hr nt_lst) (fun i σ' H' => ∃ A2 y v, σ' = [some (.ref a), some (.ref r), some (.ref t), v, none] ∧ Trial L H t A2 H' y ∧ pr y (row.drop i) = pr x.fresh row ∧ y.n = x.n ∧ y.each = x.each)
    (fun H4 e4 => ⟨A1, x.fresh, none, rfl, tr.ex e4, rfl, rfl, rfl⟩) (fun i σ' H' ⟨A2, y, v, _, tr, _⟩ => tr.en.keep _ _ hr nt_lst) ?_ ?_
  · rintro i p σ' H4 hi ⟨A2, y, v, rfl, tr, hpr, hn, he⟩
    have hp : p < x.n := hrow p (List.mem_of_getElem? hi)
    rw [drop_at hi] at hpr
    -- the save, behind the turn
    have save : ∀ (D : Ends), (∀ σ' H', (∃ A2 y v, σ' = [some (.ref a), some (.ref r), some (.ref t), v, none] ∧ Trial L H t A2 H' y ∧ pr y (row.drop (i + 1)) = pr x.fresh row ∧ y.n = x.n ∧ y.each = x.each) → D.nx σ' H') → D.rt = Q → ∀ (A3 : Adr) (z : Abs) (H5 : Hp), Trial L H t A3 H5 z → z = onE y → z.used < z.each → z.n = x.n → z.each = x.each →
        (tIfS (tTest (tOp (rI0 fun i j => .bl (decide (i < j))) (tOp (rIxL K) (tCall (sp_save K L) [] C8.E0 (tCons (tVar 2) (tCons (tVar 3) tNil))) (tC (.int 0))) (tC (.int 0)))) (tRet (tLst (tCons (tC (.int (-33))) tNil))) tNext)
          D [some (.ref a), some (.ref r), some (.ref t), some (.int ((p : Nat) : Int)), none] H5 := by
      intro D hnx hrt A3 z H5 tr hz hu hn he
      have ds := does_save z p (by rw [hn]; exact hp) hu
      have un : pr y (p :: row.drop (i + 1)) = if z.burns.contains p || z.saved.contains p then none else pr (sv z p) (row.drop (i + 1)) := by
        rw [hz]
        rfl
      refine s_ifHd (ea_cons (ev_var rfl) (ea_cons (ev_var rfl) ea_nil)) fun H6 e6 => ⟨t, A3, z, p, rfl, tr.ses.mono e6, tr.ok, fun q A4 H7 nq hq st => ?_⟩
      have tr6 := tr.ex e6
      rcases ds with ⟨c, u, hu1, hu2⟩ | ⟨c, hs1, u, hu1, hu2⟩
      · rw [c, if_pos rfl] at un
        rw [hu1] at hq
        refine ⟨q, _, 0, .int u, rfl, rfl, sq_of hq, show atI _ ((0 : Nat) : Int) = _ from atI_nat rfl, u, 0, rfl, rfl, _, rfl, ?_⟩
        rw [if_pos (decide_eq_true hu2)]
        have en7 := tr6.en.stp tr6.nt tr6.nj tr6.ns st
        have nn : x.fresh.run x.n row = none := by
          rw [← hpr, un] at same
          cases e : x.fresh.run x.n row with
          | none => rfl
          | some b => rw [e] at same; exact same.elim
        rw [nn] at k
        refine s_retL (el_lst (ea_cons ev_c ea_nil) (by show 1 ≤ 100000; decide)) fun q' H8 hq' e8 h8 => ?_
        rw [hrt]
        have st' := (Stp.refl hs).exN en7
        exact k q' A H8 (st'.grow _ (nw_of hq')) h8 (st'.ex e8)
      · rw [c, if_neg (by decide)] at un
        rw [hu1] at hq
        refine ⟨q, _, 0, .int u, rfl, rfl, sq_of hq, show atI _ ((0 : Nat) : Int) = _ from atI_nat rfl, u, 0, rfl, rfl, _, rfl, ?_⟩
        rw [if_neg (by simpa using hu2)]
        have okz := ok_does tr.ok (.save p)
        rw [hs1] at okz st
        exact hnx _ _ ⟨A4, sv z p, _, rfl, tr6.stp st okz, by rw [← hpr, un], hn, he⟩
    refine q_when (b := decide (y.used = y.each)) (et_test (ev_is (ev_op (ev_used T tr.ses (ev_var rfl)) (ev_each T tr.ses (ev_var rfl)) (rv_eq rfl)) ((congrArg V.bl (eqI _ _)).trans (congrArg V.bl (decide_eq_decide.mpr (show ((y.used : Nat) : Int) = ((y.each : Nat) : Int) ↔ y.used = y.each by omega)))))) (fun c H5 e5 => ?_) (fun c H5 e5 => ?_)
    · rw [decide_eq_true_eq] at c
      refine s_do (ea_cons (ev_var rfl) ea_nil) fun H6 e6 => ⟨t, A2, y, rfl, (tr.ses.mono e5).mono e6, tr.ok, fun q A3 H7 nq hq st => ?_⟩
      exact save _ (fun _ _ h => h) rfl A3 y.spread H7 (((tr.ex e5).ex e6).stp st tr.ok.spread) (onE_full c).symm (by show 0 < y.each; have := tr.ok.each; omega) hn he
    · rw [decide_eq_false_iff_not] at c
      exact save _ (fun _ _ h => h) rfl A2 y H5 (tr.ex e5) (onE_not c).symm (by have := tr.ok.used; omega) hn he
  · rintro σ' H4 ⟨A2, y, v, rfl, tr, hpr, hn, he⟩
    rw [List.drop_length] at hpr
    exact fin A2 y v H4 tr hpr.symm hn
end
end FS

set_option maxRecDepth 100000
set_option maxHeartbeats 4000000
namespace FS
open PySem PySem.Spec PyProof.Rows L2 Evl
open Su121 (Abs)
theorem enc_cons (c : Su121.Call) : ∃ op rest, enc c = op :: rest := by cases c <;> exact ⟨_, _, rfl⟩
theorem get_mid {pre m post : List Nat} {i : Nat} {z : Nat} (h : m[i]? = some z) : ((I (pre ++ m ++ post)).map V.int)[pre.length + i]? = some (.int (z : Int)) := by
  have hi : i < m.length := (List.getElem?_eq_some_iff.mp h).1
  have e : (pre ++ m ++ post)[pre.length + i]? = some z := by
    rw [List.append_assoc, List.getElem?_append_right (by omega), Nat.add_sub_cancel_left, List.getElem?_append_left hi]
    exact h
  unfold I
  rw [List.map_map, List.getElem?_map, e]
  rfl
section
variable {K : PySem.W.Frag} {mg : Str → Option Value} {L : Locs} {σ : L2.St} {H H1 : Hp} {ta te tb : TE} {ts : TA} {tz : TS} {D : Ends} {C a : Addr} {A A1 : Adr} {d d1 : Dat} {Q : VK} {E : XK} {sp : Sp} {dvs vs : List V}
/-- z in (a written dict) -/
theorem et_inKD {dk : Addr} {kvs : List (L2.Key × Value)} {z : Int} (h : Ev ta σ H (.int z)) : EvT (tTest (tOp (rInKD false dk kvs) ta (tC (.ref dk)))) σ H ((valueAt kvs (.inl z)).isSome) := fun H1 e Q q =>
  h H1 e _ fun H2 e2 => ⟨.inl z, rfl, rfl, _, rfl, q H2 e2⟩
theorem pure_end_of_call (T : Txt K mg L) (vs : List V) (H : Hp) (Q : VK) (E : XK) (h : sp_end_of_call K L vs H Q E) : t_end_of_call K L (En Q) (start N_end_of_call vs) H := by
  obtain ⟨ca, pre, c, post, rfl, hc, k⟩ := h
  obtain ⟨op, rest, he⟩ := enc_cons c
  have at0 : ∀ {H'}, Ex H H' → Ev (tOp (rIxL K) (tVar 0) (tVar 1)) (start N_end_of_call [.ref ca, .int ((pre.length : Nat) : Int)]) H' (.int (op : Int)) := fun {H'} e =>
    ev_op (ev_var rfl) (ev_var rfl) (rv_ixL (ex_l e hc) (atI_nat (get_mid (i := 0) (by rw [he]; rfl))))
  refine q_when (et_or (et_inKD (at0 (.refl H))) fun _ => et_inKD (at0 (.refl H))) (fun c1 H1 e1 => ?_) (fun c1 H1 e1 => ?_)
  · have l2 : (enc c).length = 2 := by cases c <;> first | rfl | (injection he with h1 h2; subst h1; exact absurd (show false = true from c1) (by decide))
    refine s_ret (v := .int (((pre ++ enc c).length : Nat) : Int)) (ev_is (ev_op (ev_var rfl) ev_c rv_I0) ?_) fun H2 e2 => k H2 (e1.trans e2)
    rw [List.length_append, l2]
    rfl
  refine q_when (et_inKD (at0 e1)) (fun c2 H2 e2 => ?_) (fun c2 H2 e2 => ?_)
  · have l3 : ∃ l, rest = l.length :: l := by cases c <;> first | (injection he with h1 h2; subst h1; exact absurd (show false = true from c2) (by decide)) | (injection he with h1 h2; subst h2; exact ⟨_, rfl⟩)
    obtain ⟨l, rfl⟩ := l3
    have e12 := e1.trans e2
    refine s_ret (v := .int (((pre ++ enc c).length : Nat) : Int)) (ev_is (ev_op (ev_op (ev_var rfl) ev_c rv_I0) (ev_op (ev_var rfl) (ev_op (ev_var rfl) ev_c rv_I0) (rv_ixL (v := .int (l.length : Int)) (ex_l e12 hc) ?_)) rv_I0) ?_) fun H3 e3 => k H3 (e12.trans e3)
    · exact atI_nat (j := pre.length + 1) (get_mid (i := 1) (by rw [he]; rfl))
    · rw [List.length_append, he, List.length_cons, List.length_cons]
      congr 1
      omega
  · have l1 : (enc c).length = 1 := by cases c <;> first | rfl | (injection he with h1 h2; subst h1; first | exact absurd (show true = false from c1) (by decide) | exact absurd (show true = false from c2) (by decide))
    refine s_ret (v := .int (((pre ++ enc c).length : Nat) : Int)) (ev_is (ev_op (ev_var rfl) ev_c rv_I0) ?_) fun H3 e3 => k H3 ((e1.trans e2).trans e3)
    rw [List.length_append, l1]
    rfl
end
end FS

set_option maxRecDepth 100000
set_option maxHeartbeats 4000000
namespace FS
open PySem PySem.Spec PyProof.Rows L2 Evl
open Su121 (Abs)
section
variable {K : PySem.W.Frag} {mg : Str → Option Value} {L : Locs} {D : Ends} {σ : L2.St} {H H1 H2 : Hp} {tu tz : TS} {te ta tb : TE} {a : Addr} {A A1 : Adr} {d d1 d2 : Dat} {Q : VK} {x : Abs} {dk f : Addr} {kvs : List (L2.Key × Value)} {z : Int} {i : Nat} {S : Addr → Sp → Prop} {sp : Sp} {ts : TA} {vs : List V} {ans : List Int}
theorem RetC.ahead (hs : SesAt L.C_Session H a A d) (k : RetC L a A H d1 ans Q) (e : Ex H H1) : RetC L a A H1 d1 ans Q := fun p A' H' np hp st =>
  k p A' H' (Grow.ex e _ np) hp (Stp.trans ((Stp.refl hs).ex e) st hs)
theorem q_skip (hi : σ[i]? = some (some (.int z))) (h : (valueAt kvs (.inl z)).isSome = false) (k : tz D σ H) : tSeq (tIfS (tTest (tOp (rInKD false dk kvs) (tVar i) (tC (.ref dk)))) tu tNext) tz D σ H :=
  ⟨_, hi, .inl z, rfl, rfl, false, congrArg V.bl h, k⟩
theorem q_take (hi : σ[i]? = some (some (.int z))) (h : (valueAt kvs (.inl z)).isSome = true) (k : tu { D with nx := tz D } σ H) : tSeq (tIfS (tTest (tOp (rInKD false dk kvs) (tVar i) (tC (.ref dk)))) tu tNext) tz D σ H :=
  ⟨_, hi, .inl z, rfl, rfl, true, congrArg V.bl h, k⟩
theorem ret_pick (hi : σ[i]? = some (some (.int z))) (hv : valueAt kvs (.inl z) = some (.ref f)) (hS : S f sp) (h : EvA ts σ H vs) (k : ∀ H1, Ex H H1 → sp vs H1 D.rt fun _ _ _ => False) : tRet (tCallE S (tOp (rIxKD dk kvs) (tC (.ref dk)) (tVar i)) ts) D σ H :=
  ⟨_, hi, .inl z, .ref f, .ref f, rfl, rfl, hv, rfl, f, sp, rfl, hS, h H (Ex.refl H) _ k⟩
theorem ret_pickL {v : V} {xs : List V} (hi : σ[i]? = some (some (.int z))) (hv : valueAt kvs (.inl z) = some (.ref f)) (hS : S f sp) (h1 : Ev ta σ H v) (h2 : EvL tb σ H xs) (k : ∀ p H1, Ex H H1 → H1 p = some (.lst xs) → sp [v, .ref p] H1 D.rt fun _ _ _ => False) :
    tRet (tCallE S (tOp (rIxKD dk kvs) (tC (.ref dk)) (tVar i)) (tCons ta (tCons tb tNil))) D σ H :=
  ⟨_, hi, .inl z, .ref f, .ref f, rfl, rfl, hv, rfl, f, sp, rfl, hS, h1 H (Ex.refl H) _ fun H1 e1 => h2 H1 e1 _ fun p H2 _ e2 hp => k p H2 (e1.trans e2) hp⟩
end
end FS

set_option maxRecDepth 100000
set_option maxHeartbeats 4000000
namespace FS
open PySem PySem.Spec PyProof.Rows L2 Evl
open Su121 (Abs)
section
variable {K : PySem.W.Frag} {mg : Str → Option Value} {L : Locs} {σ : L2.St} {H H1 : Hp} {a g : Addr} {A : Adr} {d : Dat} {Q : VK} {x : Abs}
theorem first_ {u v : V} {p : Nat} (hg : H g = some (.lst ((I [p]).map V.int))) : Ev (tOp (rIxL K) (tVar 2) (tC (.int 0))) [some u, some v, some (.ref g)] H (.int ((p : Nat) : Int)) :=
  ev_op (ev_var rfl) ev_c (rv_ixL (sq_of hg) (show atI _ ((0 : Nat) : Int) = _ from atI_nat rfl))
theorem rest_ {u v : V} {n : Nat} {l : List Nat} (hg : H g = some (.lst ((I (n :: l)).map V.int))) : EvL (tSl (rSlL K) (tVar 2) (tPart (tC (.int 1))) tNoPart) [some u, some v, some (.ref g)] H ((I l).map V.int) :=
  el_is (el_sl (ev_var rfl) (eo_some ev_c) eo_none (sq_of hg)) (cut_tail _ _)
/-- a begun session's call -/
theorem answer_on (T : Txt K mg L) {c : Su121.Call} {op : Nat} {rest : List Nat} (he : enc c = op :: rest) (hs : SesAt L.C_Session H a A (dat x)) (o : Ok x) (hf : fits c) (ht : TabOk L H) (hg : H g = some (.lst ((I rest).map V.int))) (k : RetC L a A H (dat (Su121.does x c).1) (ansI (Su121.does x c).2) Q) :
    (tSeq (tIfS (tTest (tOp (rInKD false L.a_PLAIN_CALLS (kvs_PLAIN_CALLS L)) (tVar 1) (tC (.ref L.a_PLAIN_CALLS)))) (tRet (tCallE (S_PLAIN_CALLS K L) (tOp (rIxKD L.a_PLAIN_CALLS (kvs_PLAIN_CALLS L)) (tC (.ref L.a_PLAIN_CALLS)) (tVar 1)) (tCons (tVar 0) tNil))) tNext)
    (tSeq (tIfS (tTest (tOp (rInKD false L.a_NUMBER_CALLS (kvs_NUMBER_CALLS L)) (tVar 1) (tC (.ref L.a_NUMBER_CALLS)))) (tRet (tCallE (S_NUMBER_CALLS K L) (tOp (rIxKD L.a_NUMBER_CALLS (kvs_NUMBER_CALLS L)) (tC (.ref L.a_NUMBER_CALLS)) (tVar 1)) (tCons (tVar 0) (tCons (tOp (rIxL K) (tVar 2) (tC (.int 0))) tNil)))) tNext)
    (tSeq (tIfS (tTest (tOp (rInKD false L.a_PLAIN_QUESTIONS (kvs_PLAIN_QUESTIONS L)) (tVar 1) (tC (.ref L.a_PLAIN_QUESTIONS)))) (tRet (tCallE (S_PLAIN_QUESTIONS K L) (tOp (rIxKD L.a_PLAIN_QUESTIONS (kvs_PLAIN_QUESTIONS L)) (tC (.ref L.a_PLAIN_QUESTIONS)) (tVar 1)) (tCons (tVar 0) tNil))) tNext)
    (tSeq (tIfS (tTest (tOp (rInKD false L.a_NUMBER_QUESTIONS (kvs_NUMBER_QUESTIONS L)) (tVar 1) (tC (.ref L.a_NUMBER_QUESTIONS)))) (tRet (tCallE (S_NUMBER_QUESTIONS K L) (tOp (rIxKD L.a_NUMBER_QUESTIONS (kvs_NUMBER_QUESTIONS L)) (tC (.ref L.a_NUMBER_QUESTIONS)) (tVar 1)) (tCons (tVar 0) (tCons (tOp (rIxL K) (tVar 2) (tC (.int 0))) tNil)))) tNext)
    (tRet (tCallE (S_ROW_QUESTIONS K L) (tOp (rIxKD L.a_ROW_QUESTIONS (kvs_ROW_QUESTIONS L)) (tC (.ref L.a_ROW_QUESTIONS)) (tVar 1)) (tCons (tVar 0) (tCons (tSl (rSlL K) (tVar 2) (tPart (tC (.int 1))) tNoPart) tNil)))))))) (En Q) [some (.ref a), some (.int ((op : Nat) : Int)), some (.ref g)] H := by
  cases c with
  | begin_ =>
    obtain ⟨rfl, rfl⟩ := List.cons.inj he
    refine q_take rfl rfl ?_
    exact ret_pick rfl rfl (.inl ⟨rfl, rfl⟩) (ea_cons (ev_var rfl) ea_nil) fun H1 e1 => ⟨a, A, dat x, rfl, hs.mono e1, k.ahead hs e1⟩
  | drop =>
    obtain ⟨rfl, rfl⟩ := List.cons.inj he
    refine q_take rfl rfl ?_
    exact ret_pick rfl rfl (.inr (.inl ⟨rfl, rfl⟩)) (ea_cons (ev_var rfl) ea_nil) fun H1 e1 => ⟨a, A, x, rfl, hs.mono e1, o, k.ahead hs e1⟩
  | turn =>
    obtain ⟨rfl, rfl⟩ := List.cons.inj he
    refine q_take rfl rfl ?_
    exact ret_pick rfl rfl (.inr (.inr (.inl ⟨rfl, rfl⟩))) (ea_cons (ev_var rfl) ea_nil) fun H1 e1 => ⟨a, A, x, rfl, hs.mono e1, o, k.ahead hs e1⟩
  | again =>
    obtain ⟨rfl, rfl⟩ := List.cons.inj he
    refine q_take rfl rfl ?_
    exact ret_pick rfl rfl (.inr (.inr (.inr (.inl ⟨rfl, rfl⟩)))) (ea_cons (ev_var rfl) ea_nil) fun H1 e1 => ⟨a, A, x, rfl, hs.mono e1, o, k.ahead hs e1⟩
  | burns =>
    obtain ⟨rfl, rfl⟩ := List.cons.inj he
    refine q_take rfl rfl ?_
    exact ret_pick rfl rfl (.inr (.inr (.inr (.inr (.inl ⟨rfl, rfl⟩))))) (ea_cons (ev_var rfl) ea_nil) fun H1 e1 => ⟨a, A, x, rfl, hs.mono e1, o, k.ahead hs e1⟩
  | saved =>
    obtain ⟨rfl, rfl⟩ := List.cons.inj he
    refine q_take rfl rfl ?_
    exact ret_pick rfl rfl (.inr (.inr (.inr (.inr (.inr (.inl ⟨rfl, rfl⟩)))))) (ea_cons (ev_var rfl) ea_nil) fun H1 e1 => ⟨a, A, x, rfl, hs.mono e1, o, k.ahead hs e1⟩
  | safe =>
    obtain ⟨rfl, rfl⟩ := List.cons.inj he
    refine q_take rfl rfl ?_
    exact ret_pick rfl rfl (.inr (.inr (.inr (.inr (.inr (.inr (.inl ⟨rfl, rfl⟩))))))) (ea_cons (ev_var rfl) ea_nil) fun H1 e1 => ⟨a, A, x, rfl, hs.mono e1, o, k.ahead hs e1⟩
  | state =>
    obtain ⟨rfl, rfl⟩ := List.cons.inj he
    refine q_take rfl rfl ?_
    exact ret_pick rfl rfl (.inr (.inr (.inr (.inr (.inr (.inr (.inr ⟨rfl, rfl⟩))))))) (ea_cons (ev_var rfl) ea_nil) fun H1 e1 => ⟨a, A, x, rfl, hs.mono e1, o, k.ahead hs e1⟩
  | join p =>
    obtain ⟨rfl, rfl⟩ := List.cons.inj he
    refine q_skip rfl rfl ?_
    refine q_take rfl rfl ?_
    exact ret_pick rfl rfl (.inl ⟨rfl, rfl⟩) (ea_cons (ev_var rfl) (ea_cons (first_ hg) ea_nil)) fun H1 e1 => ⟨a, A, x, p, rfl, hs.mono e1, o, k.ahead hs e1⟩
  | fire p =>
    obtain ⟨rfl, rfl⟩ := List.cons.inj he
    refine q_skip rfl rfl ?_
    refine q_take rfl rfl ?_
    exact ret_pick rfl rfl (.inr (.inl ⟨rfl, rfl⟩)) (ea_cons (ev_var rfl) (ea_cons (first_ hg) ea_nil)) fun H1 e1 => ⟨a, A, x, p, rfl, hs.mono e1, o, k.ahead hs e1⟩
  | each p =>
    obtain ⟨rfl, rfl⟩ := List.cons.inj he
    refine q_skip rfl rfl ?_
    refine q_take rfl rfl ?_
    exact ret_pick rfl rfl (.inr (.inr (.inl ⟨rfl, rfl⟩))) (ea_cons (ev_var rfl) (ea_cons (first_ hg) ea_nil)) fun H1 e1 => ⟨a, A, x, p, rfl, hs.mono e1, o, k.ahead hs e1⟩
  | save p =>
    obtain ⟨rfl, rfl⟩ := List.cons.inj he
    refine q_skip rfl rfl ?_
    refine q_take rfl rfl ?_
    exact ret_pick rfl rfl (.inr (.inr (.inr ⟨rfl, rfl⟩))) (ea_cons (ev_var rfl) (ea_cons (first_ hg) ea_nil)) fun H1 e1 => ⟨a, A, x, p, rfl, hs.mono e1, o, k.ahead hs e1⟩
  | best =>
    obtain ⟨rfl, rfl⟩ := List.cons.inj he
    refine q_skip rfl rfl ?_
    refine q_skip rfl rfl ?_
    refine q_take rfl rfl ?_
    exact ret_pick rfl rfl (.inl ⟨rfl, rfl⟩) (ea_cons (ev_var rfl) ea_nil) fun H1 e1 => ⟨a, A, x, rfl, hs.mono e1, o, k.ahead hs e1⟩
  | greedy =>
    obtain ⟨rfl, rfl⟩ := List.cons.inj he
    refine q_skip rfl rfl ?_
    refine q_skip rfl rfl ?_
    refine q_take rfl rfl ?_
    exact ret_pick rfl rfl (.inr (.inl ⟨rfl, rfl⟩)) (ea_cons (ev_var rfl) ea_nil) fun H1 e1 => ⟨a, A, x, rfl, hs.mono e1, o, TK.ex e1 ht, k.ahead hs e1⟩
  | worst =>
    obtain ⟨rfl, rfl⟩ := List.cons.inj he
    refine q_skip rfl rfl ?_
    refine q_skip rfl rfl ?_
    refine q_take rfl rfl ?_
    exact ret_pick rfl rfl (.inr (.inr (.inl ⟨rfl, rfl⟩))) (ea_cons (ev_var rfl) ea_nil) fun H1 e1 => ⟨a, A, x, rfl, hs.mono e1, o, k.ahead hs e1⟩
  | from_ =>
    obtain ⟨rfl, rfl⟩ := List.cons.inj he
    refine q_skip rfl rfl ?_
    refine q_skip rfl rfl ?_
    refine q_take rfl rfl ?_
    exact ret_pick rfl rfl (.inr (.inr (.inr (.inl ⟨rfl, rfl⟩)))) (ea_cons (ev_var rfl) ea_nil) fun H1 e1 => ⟨a, A, x, rfl, hs.mono e1, o, k.ahead hs e1⟩
  | mores =>
    obtain ⟨rfl, rfl⟩ := List.cons.inj he
    refine q_skip rfl rfl ?_
    refine q_skip rfl rfl ?_
    refine q_take rfl rfl ?_
    exact ret_pick rfl rfl (.inr (.inr (.inr (.inr ⟨rfl, rfl⟩)))) (ea_cons (ev_var rfl) ea_nil) fun H1 e1 => ⟨a, A, x, rfl, hs.mono e1, o, k.ahead hs e1⟩
  | size p =>
    obtain ⟨rfl, rfl⟩ := List.cons.inj he
    refine q_skip rfl rfl ?_
    refine q_skip rfl rfl ?_
    refine q_skip rfl rfl ?_
    refine q_take rfl rfl ?_
    exact ret_pick rfl rfl (.inl ⟨rfl, rfl⟩) (ea_cons (ev_var rfl) (ea_cons (first_ hg) ea_nil)) fun H1 e1 => ⟨a, A, x, p, rfl, hs.mono e1, o, k.ahead hs e1⟩
  | deep p =>
    obtain ⟨rfl, rfl⟩ := List.cons.inj he
    refine q_skip rfl rfl ?_
    refine q_skip rfl rfl ?_
    refine q_skip rfl rfl ?_
    refine q_take rfl rfl ?_
    exact ret_pick rfl rfl (.inr (.inl ⟨rfl, rfl⟩)) (ea_cons (ev_var rfl) (ea_cons (first_ hg) ea_nil)) fun H1 e1 => ⟨a, A, x, p, rfl, hs.mono e1, o, k.ahead hs e1⟩
  | level p =>
    obtain ⟨rfl, rfl⟩ := List.cons.inj he
    refine q_skip rfl rfl ?_
    refine q_skip rfl rfl ?_
    refine q_skip rfl rfl ?_
    refine q_take rfl rfl ?_
    exact ret_pick rfl rfl (.inr (.inr ⟨rfl, rfl⟩)) (ea_cons (ev_var rfl) (ea_cons (first_ hg) ea_nil)) fun H1 e1 => ⟨a, A, x, p, rfl, hs.mono e1, o, k.ahead hs e1⟩
  | run l =>
    obtain ⟨rfl, rfl⟩ := List.cons.inj he
    refine q_skip rfl rfl ?_
    refine q_skip rfl rfl ?_
    refine q_skip rfl rfl ?_
    refine q_skip rfl rfl ?_
    exact ret_pickL rfl rfl (.inl ⟨rfl, rfl⟩) (ev_var rfl) (rest_ hg) fun p H1 e1 hp => ⟨a, A, x, p, l, rfl, hs.mono e1, o, hp, hf, k.ahead hs e1⟩
  | kept l =>
    obtain ⟨rfl, rfl⟩ := List.cons.inj he
    refine q_skip rfl rfl ?_
    refine q_skip rfl rfl ?_
    refine q_skip rfl rfl ?_
    refine q_skip rfl rfl ?_
    exact ret_pickL rfl rfl (.inr ⟨rfl, rfl⟩) (ev_var rfl) (rest_ hg) fun p H1 e1 hp => ⟨a, A, x, p, l, rfl, hs.mono e1, o, hp, hf, k.ahead hs e1⟩
theorem pure_answer_of (T : Txt K mg L) (vs : List V) (H : Hp) (Q : VK) (E : XK) (h : sp_answer_of K L vs H Q E) : t_answer_of K L (En Q) (start N_answer_of vs) H := by
  obtain ⟨a, A, s, c, op, rest, g, rfl, he, hs, ok, hf, ht, hg, k⟩ := h
  cases s with
  | some x =>
    have hs' : SesAt L.C_Session H a A (dat x) := hs
    refine q_when (et_and (et_test (ev_op (ev_var rfl) ev_c (rv_ne rfl))) fun _ => et_test (ev_is (ev_op (ev_joinedLen T hs' (ev_var rfl)) ev_c (rv_eq rfl)) (congrArg V.bl (show _ = false from by rw [eqI]; exact decide_eq_false (by have := Nat.lt_of_le_of_lt (Nat.zero_le _) ok.fire; omega))))) (fun c1 H1 e1 => ?_) (fun c1 H1 e1 => ?_)
    · rw [Bool.and_false] at c1
      cases c1
    · exact answer_on T he (hs'.mono e1) ok hf (TK.ex e1 ht) (e1 _ _ hg) (k.ahead hs' e1)
  | none =>
    have hs' : SesAt L.C_Session H a A dat0 := hs
    have hl : Ev (tCB (rLenS K) (tCons (tFld K (tVar 0) "joined") tNil)) (start N_answer_of [.ref a, .int (op : Int), .ref g]) H (.int 0) := ev_len (K := K) (ev_joined T hs' (ev_var rfl)) (sq_of hs'.jl)
    refine q_when (et_and (et_test (ev_op (ev_var rfl) ev_c (rv_ne rfl))) fun _ => et_test (ev_op hl ev_c (rv_eq rfl))) (fun c1 H1 e1 => ?_) (fun c1 H1 e1 => ?_)
    · rw [eqI, eqI, Bool.and_eq_true, Bool.not_eq_true', decide_eq_false_iff_not] at c1
      have nb : Su121.step none c = (none, Su121.no (-11)) := by
        cases c with
        | begin_ => exact absurd (by injection he with h1 h2; rw [← h1]; rfl) c1.1
        | _ => rfl
      rw [nb] at k
      exact ret_ref ((Stp.refl hs').ex e1) k ev_c
    · rw [eqI, eqI, Bool.and_eq_false_iff, Bool.not_eq_false', decide_eq_true_eq] at c1
      have hb : c = .begin_ := by
        have h0 : op = 0 := c1.elim (fun z => by omega) fun z => absurd z (by decide)
        subst h0
        cases c <;> first | rfl | (injection he with h1 h2; exact absurd h1 (by decide))
      subst hb
      obtain ⟨rfl, rfl⟩ := List.cons.inj he
      refine q_take rfl rfl ?_
      exact ret_pick rfl rfl (.inl ⟨rfl, rfl⟩) (ea_cons (ev_var rfl) ea_nil) fun H2 e2 => ⟨a, A, dat0, rfl, (hs'.mono e1).mono e2, k.ahead hs' (e1.trans e2)⟩
end
end FS

set_option maxRecDepth 100000
set_option maxHeartbeats 4000000
namespace FS
open PySem PySem.Spec PyProof.Rows L2 Evl
open Su121 (Abs)
open PyFlat (told)
/-! ### the line, call by call -/
def after : Option Abs → List Su121.Call → Option Abs
  | s, [] => s
  | s, x :: r => after (Su121.step s x).1 r
theorem after_snoc : ∀ (l : List Su121.Call) (s : Option Abs) (x : Su121.Call), after s (l ++ [x]) = (Su121.step (after s l) x).1
  | [], _, _ => rfl
  | y :: l, s, x => after_snoc l (Su121.step s y).1 x
theorem plays_snoc : ∀ (l : List Su121.Call) (s : Option Abs) (x : Su121.Call), plays s (l ++ [x]) = plays s l ++ [ansI (Su121.step (after s l) x).2]
  | [], _, _ => rfl
  | y :: l, s, x => by
    show ansI (Su121.step s y).2 :: plays (Su121.step s y).1 (l ++ [x]) = _
    rw [plays_snoc l]
    rfl
theorem plays_append : ∀ (l m : List Su121.Call) (s : Option Abs), plays s (l ++ m) = plays s l ++ plays (after s l) m
  | [], _, _ => rfl
  | y :: l, m, s => by
    show ansI (Su121.step s y).2 :: plays (Su121.step s y).1 (l ++ m) = _
    rw [plays_append l]
    rfl
theorem told_append (l m : List (List Int)) : told (l ++ m) = told l ++ told m := List.flatMap_append ..
theorem told_one (a : List Int) : told [a] = (a.length : Int) :: a := by
  show ((a.length : Int) :: a) ++ [] = _
  rw [List.append_nil]
theorem ok_after {s : Option Abs} (h : OkO s) : ∀ l, OkO (after s l)
  | [] => h
  | x :: l => ok_after (ok_step h x) l
theorem cut_mid {pre m post : List V} {i j : Int} (hi : i = (pre.length : Int)) (hj : j = ((pre ++ m).length : Int)) : cutV (pre ++ m ++ post) (some i) (some j) = m := by
  subst hi hj
  unfold cutV
  rw [HT.sIx_nat, HT.sIx_nat]
  have l1 : (pre ++ m ++ post).length = pre.length + m.length + post.length := by rw [List.length_append, List.length_append]
  have l2 : (pre ++ m).length = pre.length + m.length := List.length_append ..
  rw [l1, l2, Nat.min_eq_left (by omega), Nat.min_eq_left (by omega), List.append_assoc, List.drop_left, Nat.add_sub_cancel_left, List.take_left]
section
variable {K : PySem.W.Frag} {mg : Str → Option Value} {L : Locs} {σ : L2.St} {H H1 : Hp} {ta te te1 te2 te3 tb : TE} {ts : TA} {tz : TS} {D : Ends} {C a : Addr} {A A1 : Adr} {d d1 : Dat} {Q : VK} {E : XK} {sp : Sp} {dvs vs : List V}
theorem q_asg3 {i : Nat} {x y : V} {xs : List V} (h1 : Ev te1 σ H x) (h2 : Ev te2 σ H y) (h3 : EvL te3 σ H xs) (k : ∀ p H1, H p = none → Ex H H1 → H1 p = some (.lst xs) → sp [x, y, .ref p] H1 (fun v H2 => tz D (σ.set i (some v)) H2) E) :
    tSeq (tAsg (tCall sp [] E (tCons te1 (tCons te2 (tCons te3 tNil)))) (gName i)) tz D σ H :=
  h1 H (.refl H) _ fun H1 e1 => h2 H1 e1 _ fun H2 e2 => h3 H2 (e1.trans e2) _ fun p H3 hp e3 h => k p H3 (fresh_back (e1.trans e2) hp) ((e1.trans e2).trans e3) h
theorem q_appB {l : Addr} {xs : List V} {v : V} (hl : H l = some (.lst xs)) (ha : Ev ta σ H (.ref l)) (h : Ev te σ H v) (hz : xs.length < sizeLine) (k : ∀ H1, Ex H H1 → tz D σ (upd H1 l (.lst (xs ++ [v])))) :
    tSeq (tDrop (tBM K "list" rAppend ta (tCons te tNil))) tz D σ H := ha H (Ex.refl H) _ fun H1 e1 =>
  ⟨Or.inl ⟨rfl, xs, sq_of (e1 l _ hl)⟩, h H1 e1 _ fun H2 e2 => ⟨l, xs, v, rfl, rfl, e2 l _ (e1 l _ hl), hz, k H2 (e1.trans e2)⟩⟩
theorem q_extB {l b : Addr} {xs zs : List V} (hl : H l = some (.lst xs)) (hb : H b = some (.lst zs)) (ha : Ev ta σ H (.ref l)) (h : Ev te σ H (.ref b)) (hz : xs.length + zs.length ≤ sizeLine) (k : ∀ H1, Ex H H1 → tz D σ (upd H1 l (.lst (xs ++ zs)))) :
    tSeq (tDrop (tBM K "list" rExtend ta (tCons te tNil))) tz D σ H := ha H (Ex.refl H) _ fun H1 e1 =>
  ⟨Or.inl ⟨rfl, xs, sq_of (e1 l _ hl)⟩, h H1 e1 _ fun H2 e2 => ⟨l, b, xs, zs, rfl, rfl, e2 l _ (e1 l _ hl), e2 _ _ (e1 _ _ hb), hz, k H2 (e1.trans e2)⟩⟩
theorem ArgAt.ex {xs : List V} (h : ArgAt K H a xs) (e : Ex H H1) : ArgAt K H1 a xs := h.imp (fun ⟨o, h⟩ => ⟨o, e _ _ h⟩) id
theorem ArgAt.upd {xs ys zs : List V} {b : Addr} (h : ArgAt K H a xs) (hb : H b = some (.lst ys)) : ArgAt K (L2.upd H b (.lst zs)) a xs := h.imp (fun ⟨o, h⟩ => ⟨o, (upd_ne (ne_of h hb (by intro z; cases z))).trans h⟩) id
theorem ArgAt.kept {xs : List V} {ca : Addr} {A' : Adr} (h : ArgAt K H ca xs) (s : SesAt C H a A d) (k : Kept L a A A' H H1) : ArgAt K H1 ca xs :=
  h.imp (fun ⟨o, h⟩ => ⟨o, k.keep _ _ h nt_frz (ne_of h s.ins (by intro z; cases z)) (ne_of h s.jl (by intro z; cases z)) (ne_of h s.sl (by intro z; cases z))⟩) id
theorem pure_answers (T : Txt K mg L) (vs : List V) (H : Hp) (Q : VK) (E : XK) (h : sp_answers K L vs H Q E) : t_answers K L (En Q) (start N_answers vs) H := by
  obtain ⟨ca, ns, rfl, htab, hca, hask, k⟩ := h
  obtain ⟨xs, hns, _, _, hfit, hdue, hlen⟩ := asked_calls hask
  -- session = Session()
  intro a dx na ndx ne
  refine ⟨a, dx, rfl, upd_same, (upd_ne ne).trans upd_same, fun H1 A s1 keep nj nab nas => ⟨rfl, ?_⟩⟩
  have e1 : Ex H H1 := fun b o q => by
    have n1 := ne_of_none q na
    exact keep b o ((upd_ne n1).trans ((upd_ne (ne_of_none q ndx)).trans q)) n1
  have c1 := hca.ex e1
  -- told = []; at = 0
  refine q_asgL (el_lst ea_nil (by decide)) fun tl H2 ntl e2 h2 => ?_
  refine q_asg ev_c fun H3 e3 => ?_
  have s3 := s1.mono (e2.trans e3)
  have tj : tl ≠ A.aj := fun z => by rw [z, s1.jl] at ntl; cases ntl
  have ts : tl ≠ A.as := fun z => by rw [z, s1.sl] at ntl; cases ntl
  have tb : tl ≠ A.ab := fun z => by rw [z, s1.bl] at ntl; cases ntl
  have ta : tl ≠ a := fun z => by rw [z, s1.ins] at ntl; cases ntl
  refine q_while (fun m σ' H' => ∃ done rest A v4 v5, xs = done ++ rest ∧ m = rest.length ∧ σ' = [some (.ref ca), some (.ref a), some (.ref tl), some (.int (((done.flatMap enc).length : Nat) : Int)), v4, v5] ∧ ArgAt K H' ca (ns.map V.int) ∧ TabOk L H' ∧
    SesAt L.C_Session H' a A (datO (after none done)) ∧ H' tl = some (.lst ((told (plays none done)).map V.int)) ∧ tl ≠ A.aj ∧ tl ≠ A.ab ∧ tl ≠ A.as) xs.length
    ⟨[], xs, A, none, none, rfl, rfl, rfl, c1.ex (e2.trans e3), TK.ex (e1.trans (e2.trans e3)) htab, s3, e3 _ _ h2, tj, tb, ts⟩ ?_
  rintro m σ' H' ⟨done, rest, A, v4, v5, hx, rfl, rfl, c, tk, s, ht, tj, tb, ts⟩
  have ok : OkO (after none done) := ok_after (s := none) trivial done
  refine ⟨_, et_test (ev_op (ev_var rfl) (ev_len (ev_var rfl) c.sq) rv_I0), fun cc H4 e4 => ?_, fun cc H4 e4 => ?_⟩
  · rw [decide_eq_true_eq, List.length_map, hns, I_len, hx, List.flatMap_append, List.length_append] at cc
    cases rest with
    | nil =>
      exfalso
      have : (([] : List Su121.Call).flatMap enc).length = 0 := rfl
      omega
    | cons x rest =>
      refine ⟨_, fun _ _ z => z, ?_⟩
      have hfx : fits x := hfit x (by rw [hx]; exact List.mem_append_right _ (List.mem_cons_self ..))
      have hns' : ns = I (done.flatMap enc ++ enc x ++ rest.flatMap enc) := by
        rw [hns, hx, List.flatMap_append, List.append_assoc]
        rfl
      obtain ⟨op, args, he⟩ := enc_cons x
      have c4 := c.ex e4
      have c4' : SqL K H4 ca ((I (done.flatMap enc ++ enc x ++ rest.flatMap enc)).map V.int) := hns' ▸ c4.sq
      -- behind = end_of_call(calls, at)
      refine q_asg (v := .int (((done.flatMap enc ++ enc x).length : Nat) : Int)) (ev_call (ea_cons (ev_var rfl) (ea_cons (ev_var rfl) ea_nil)) fun H5 e5 Q' q' E' => ⟨ca, _, x, _, rfl, ex_l e5 c4', q'⟩) fun H5 e5 => ?_
      have s5 := s.mono (e4.trans e5)
      have c5 := c4.ex e5
      have c5' : SqL K H5 ca ((I (done.flatMap enc ++ enc x ++ rest.flatMap enc)).map V.int) := hns' ▸ c5.sq
      have ht5 := e5 _ _ (e4 _ _ ht)
      -- answer = answer_of(session, calls[at], calls[at + 1:behind])
      have cut : cutV ((I (done.flatMap enc ++ enc x ++ rest.flatMap enc)).map V.int) (some (((done.flatMap enc).length : Nat) + 1 : Int)) (some (((done.flatMap enc ++ enc x).length : Nat) : Int)) = (I args).map V.int := by
        have e : (I (done.flatMap enc ++ enc x ++ rest.flatMap enc)).map V.int = ((I (done.flatMap enc ++ [op])).map V.int ++ (I args).map V.int) ++ (I (rest.flatMap enc)).map V.int := by
          rw [he, ← List.map_append, ← I_append, ← List.map_append, ← I_append]
          congr 3
          simp
        rw [e]
        refine cut_mid ?_ ?_
        · rw [List.length_map, I_len, List.length_append]
          rfl
        · rw [← List.map_append, ← I_append, List.length_map, I_len, he]
          congr 2
          simp
      refine q_asg3 (ev_var rfl) (ev_op (ev_var rfl) (ev_var rfl) (rv_ixL (v := .int (op : Int)) c5' (atI_nat (get_mid (i := 0) (by rw [he]; rfl))))) (el_is (el_sl (ev_var rfl) (eo_some (ev_op (ev_var rfl) ev_c rv_I0)) (eo_some (ev_var rfl)) c5') cut) fun g H6 ng e6 h6 => ?_
      refine ⟨a, A, after none done, x, op, args, g, rfl, he, s5.mono e6, ok, hfx, TK.ex ((e4.trans e5).trans e6) tk, h6, fun p A7 H7 np h7 st => ?_⟩
      have tp : p ≠ tl := np.ne (e6 _ _ ht5) nt_lst
      have ht7 : H7 tl = _ := st.kept.keep _ _ (e6 _ _ ht5) nt_lst ta tj ts
      have c7 := (c5.ex e6).kept (s5.mono e6) st.kept
      have bnd : (told (plays none done)).length + (1 + (ansI (Su121.step (after none done) x).2).length) ≤ 10000000 := by
        refine Nat.le_trans ?_ hlen
        rw [hdue, hx, plays_append, told_append, List.length_append]
        refine Nat.add_le_add_left ?_ _
        show _ ≤ (told ([ansI (Su121.step (after none done) x).2] ++ _)).length
        rw [told_append, told_one, List.length_append, List.length_cons]
        omega
      -- told.append(len(answer)); told.extend(answer); at = behind
      refine q_appB ht7 (ev_var rfl) (ev_len (K := K) (ev_var rfl) (sq_of h7)) (by rw [List.length_map]; show _ < 2 ^ 24; omega) fun H8 e8 => ?_
      refine q_extB upd_same ((upd_ne tp).trans (e8 _ _ h7)) (ev_var rfl) (ev_var rfl) (by rw [List.length_append, List.length_map, List.length_map]; show _ + 1 + _ ≤ 2 ^ 24; omega) fun H9 e9 => ?_
      refine s_asg (ev_var rfl) fun H10 e10 => ?_
      have tj7 : tl ≠ A7.aj := by
        rcases st.kept.aj with e | e
        · rw [e]; exact tj
        · exact (e.ne (e6 _ _ ht5) nt_lst).symm
      have ts7 : tl ≠ A7.as := by
        rcases st.kept.as with e | e
        · rw [e]; exact ts
        · exact (e.ne (e6 _ _ ht5) nt_lst).symm
      have tb7 : tl ≠ A7.ab := by
        rcases st.kept.ab with e | e
        · rw [e]; exact tb
        · exact (e.ne (e6 _ _ ht5) nt_lst).symm
      have put : ∀ {Hx : Hp} {y : List V}, SesAt L.C_Session Hx a A7 (datO (Su121.step (after none done) x).1) → SesAt L.C_Session (upd Hx tl (.lst y)) a A7 (datO (Su121.step (after none done) x).1) := fun z =>
        ⟨(upd_ne ta.symm).trans z.ins, (upd_ne tj7.symm).trans z.jl, (upd_ne tb7.symm).trans z.bl, (upd_ne ts7.symm).trans z.sl, z.js, z.jb, z.bs⟩
      refine ⟨rest.length, by rw [List.length_cons]; omega, done ++ [x], rest, A7, some (.int (((done.flatMap enc ++ enc x).length : Nat) : Int)), some (.ref p), by rw [hx, List.append_assoc]; rfl, rfl, ?_, ?_, ?_, ?_, ?_, tj7, tb7, ts7⟩
      · rw [List.flatMap_append, show [x].flatMap enc = enc x from List.append_nil _]
        rfl
      · exact ((((c7.ex e8).upd (e8 _ _ ht7)).ex e9).upd (e9 _ _ upd_same)).ex e10
      · exact TK.ex e10 (TK.upd (e9 _ _ upd_same) pln_lst (TK.ex e9 (TK.upd (e8 _ _ ht7) pln_lst (TK.ex e8 (st.kept.tk (TK.ex ((e4.trans e5).trans e6) tk))))))
      · rw [after_snoc]
        exact (put ((put (st.ses.mono e8)).mono e9)).mono e10
      · rw [plays_snoc, told_append, told_one]
        refine e10 _ _ (upd_same.trans ?_)
        congr 2
        rw [List.append_assoc, List.map_append, List.map_cons]
        rw [List.length_map]
        rfl
  · rw [decide_eq_false_iff_not, List.length_map, hns, I_len, hx, List.flatMap_append, List.length_append] at cc
    have : rest = [] := by
      cases rest with
      | nil => rfl
      | cons x rest =>
        exfalso
        obtain ⟨op, args, he⟩ := enc_cons x
        apply cc
        rw [List.flatMap_cons, he, List.length_append, List.length_cons]
        omega
    subst this
    rw [List.append_nil] at hx
    subst hx
    refine s_ret (ev_var rfl) fun H5 e5 => k _ _ ?_
    rw [hdue]
    exact e5 _ _ (e4 _ _ ht)
end
end FS

set_option maxRecDepth 100000
set_option maxHeartbeats 4000000
namespace FS
open PySem PySem.Spec PyProof.Rows L2
open PySem.W (WData Codec OpenSpec WellAll ReadsW)
/-! # The end of a row in words of its specification, when one def of it has a table of code objects -/
abbrev bareTab : Obj := { cls := .none, data := .fields #[] }
/-- the arguments' objects, and the table, empty -/
def H1of (H : Hp) (P : Addr) : Hp := upd H P (.tbl #[])
section
variable {P : Program} {w : World} {K : PySem.W.Frag} {mg mb : Str → Option Value} {CX : CXT} {k : Nat} {fa c T : Addr} {fd : FuncData} {ps : List Str} {sp : Sp} {s : Shared} {vals : List Value} {ds : List WData} {R : PySem.W.WRecords} {cl : Str → Option Addr} {d0 : WData}
/-- what the given world says of its builtins -/
abbrev BMain (mg : Str → Option Value) (h : Heap) : Prop := ∃ bm ob, mg "__builtins__" = some (.ref bm) ∧ bm ≠ builtinsNs ∧ h.get? bm = some ob ∧ ob.cls = .type "module" ∧ ob.dict = some builtinsNs ∧ ob.data = .plain
theorem call_tab (KX : K.In s.heap) (hG : s.heap.Ns mainGlobals mg) (hB : s.heap.Ns builtinsNs mb) (hM : ∀ x : Str, x ≠ "__name__" → mb x = bootBuiltins x) (hL : s.heap.NoLimit) (hg : s.gens = #[])
    (tT : s.heap.get? T = some bareTab) (tK : K.lookup T = none) (hC : PySem.W.CodeHd s.heap c T) (hbm : BMain mg s.heap)
    (wl : WellAll w.params s.heap vals ds) (pl : plWs ds = true) (wt : ∀ d ∈ ds, d.weight ≤ 1048576) (hr : Room k callerA)
    (F : ∀ base : Heap, K.In base → base.Ns mainGlobals mg → LamX.TabB base mg c T → FnOk P w K mg base CX k fa fd ps sp) (bind : ∀ (s : Shared) (us : List Value), us.length = ps.length → BindsTo s fd ⟨us, []⟩ (ps.zip us)) (len : ds.length = ps.length)
    (hsp : ∀ (H : Hp) (xs : List V), OnlyF H → H T = none → DwAll K H xs ds → sp xs (H1of H T) (fun v H' => Dw K H' v d0) fun _ _ _ => False) (hCX : ∀ H e s', CX [] H s (fun _ _ _ => False) e s' → False) :
    codeAny (model P w) callerA (.call (.ref fa) ⟨vals, []⟩) (fun r s' => ∃ u as, r = .ok (.ret u) ∧ ReadsW R cl s'.heap u d0 as ∧ OldK s.heap s'.heap ∧ s'.os = s.os ∧ AllBare s'.gens) s := by
  obtain ⟨A, inA, ar⟩ := area_all ds vals wl pl wt
  have only := argH_only (K := K) ar
  have okA : HOk P w (argH K s.heap A) s.heap := argH_ok ar
  have says := dw_all KX ar ds vals wl pl inA
  have rel := vals_toV inA
  have shape : ∀ {b : Addr} {u : HO}, argH K s.heap A b = some u → K.lookup b = none ∧ ∃ cv vs, s.heap.get? b = some { cls := cv, data := .seq vs } := fun q => by
    obtain ⟨h1, vs, _, _, ⟨h2, _⟩ | ⟨h2, _⟩⟩ := argH_is ar q
    · exact ⟨h1, _, _, h2⟩
    · exact ⟨h1, _, _, h2⟩
  have okAny : ∀ {b : Addr} {u : HO} {H' : Hp}, argH K s.heap A b = some u → ObjOk P w H' s.heap b u := fun {b u H'} q => by
    have got := okA b u q
    obtain ⟨_, vs, _, _, ⟨_, y⟩ | ⟨_, y⟩⟩ := argH_is ar q
    · subst y
      exact ⟨got.1, got.2⟩
    · subst y
      exact ⟨got.1, got.2⟩
  clear okA
  generalize argH K s.heap A = H at only okAny says shape
  have freeT : H T = none := by
    cases q : H T with
    | none => rfl
    | some u =>
      obtain ⟨_, cv, vs, e⟩ := shape q
      rw [tT] at e
      exact absurd (congrArg Obj.data (Option.some.inj e)) (by intro z; cases z)
  -- what isn't a row of values nor the table isn't tracked
  have free : ∀ {b : Addr} {o : Obj}, s.heap.get? b = some o → (∀ vs n, o.data ≠ .seq vs n) → o.data ≠ .fields #[] → H1of H T b = none := fun {b o} e n1 n2 => by
    by_cases z : b = T
    · subst z
      rw [tT] at e
      cases e
      exact absurd rfl n2
    · refine (upd_ne z).trans ?_
      cases q : H b with
      | none => rfl
      | some u =>
        obtain ⟨_, cv, vs, e'⟩ := shape q
        rw [e] at e'
        cases e'
        exact absurd rfl (n1 _ _)
  have freeK : ∀ {b : Addr} {o : Obj}, K.lookup b = some o → H1of H T b = none := fun {b o} e => by
    by_cases z : b = T
    · rw [z, tK] at e
      cases e
    · refine (upd_ne z).trans ?_
      cases q : H b with
      | none => rfl
      | some u =>
        rw [(shape q).1] at e
        cases e
  have okH : HOk P w (H1of H T) s.heap := fun b u q => by
    by_cases z : b = T
    · subst z
      obtain rfl : HO.tbl #[] = u := Option.some.inj (upd_same.symm.trans q)
      exact tT
    · exact okAny ((upd_ne z).symm.trans q)
  have ns : ∀ {b : Addr} {m : Str → Option Value}, s.heap.Ns b m → (hidT s.heap (H1of H T)).Ns b m := fun ⟨o, es, ep, e, d, r⟩ =>
    ⟨o, es, ep, hidT_get e (free e (fun _ _ z => by rw [d] at z; cases z) fun z => by rw [d] at z; cases z), d, r⟩
  have inK : K.In (hidT s.heap (H1of H T)) := fun b o e => hidT_get (KX b o e) (freeK e)
  have md : L2.Mod K mg (hidT s.heap (H1of H T)) := ⟨inK, ns hG, ⟨mb, ns hB, hM⟩, let ⟨mc, q1, q2⟩ := hL; ⟨mc, ns q1, q2⟩⟩
  have tab : LamX.TabB (hidT s.heap (H1of H T)) mg c T := by
    obtain ⟨bm, ob, b1, b2, b3, b4, b5, b6⟩ := hbm
    obtain ⟨gO, gE, gN, g1, g2, _⟩ := hG
    have plain : ∀ {X : Data}, ob.data = X → X = .plain := fun z => z.symm.trans b6
    refine ⟨?_, ⟨bm, ob, b1, b2, fun z => ?_, fun z => ?_, hidT_get b3 (free b3 (fun _ _ z => by cases plain z) fun z => by cases plain z), b4, b5, b6⟩, fun z => ?_⟩
    · obtain ⟨o, us, fl, tf, gs, tg, iF, tx, tt, e1, e2, e3, e4, rest⟩ := hC
      exact ⟨o, us, fl, tf, gs, tg, iF, tx, tt, hidT_get e1 (free e1 (fun _ _ z => by rw [e3] at z; cases z) fun z => by
        rw [e3] at z
        cases z
        cases e4), e2, e3, e4, rest⟩
    · rw [z, g1] at b3
      cases b3
      rw [g2] at b6
      cases b6
    · rw [z, tT] at b3
      cases b3
      cases b6
    · rw [z, tT] at g1
      cases g1
      cases g2
  have env : Env0 P w K mg (hidT s.heap (H1of H T)) callerA [] s (H1of H T) := ⟨rfl, md, fun b o e => of_hidT e, Nat.le_of_eq (hidT_size _ _), trivial, fun b hb => (List.not_mem_nil hb).elim, okH, .of_eq hg⟩
  have vl : vals.length = ps.length := (wellAll_len wl).trans len
  refine codeAny_mono ((F _ inK (ns hG) tab).run callerA [] s (H1of H T) ⟨vals, []⟩ vals (vals.map toV) _ _ hr env (bind s vals vl) rel (hsp H _ only freeT says)) fun r s' x => ?_
  match r, x with
  | .error e, x => exact (hCX _ e s' x).elim
  | .ok .next, x => exact False.elim x
  | .ok .brk, x => exact False.elim x
  | .ok .cont, x => exact False.elim x
  | .ok (.ret u), ⟨v, H', os, bare, un, okE, rv, q⟩ =>
    have stays : ∀ b o, b ≠ T → s.heap.get? b = some o → s'.heap.get? b = some o := fun b o z e => by
      cases hb : H b with
      | none => exact un.keep b o e ((upd_ne z).trans hb) (fun m => (List.not_mem_nil m).elim) (by simp)
      | some y =>
        rcases only b with n | ⟨ob, y2, fz⟩
        · rw [hb] at n
          cases n
        · have fz0 : H1of H T b = some (.frz ob y2) := (upd_ne z).trans fz
          have first := (okH b _ fz0).1
          have last := (okE b _ (un.frzs b ob _ fz0)).1
          rw [first] at e
          cases e
          exact last
    obtain ⟨more, hm⟩ := un.tbls T #[] upd_same
    have grown : s'.heap.get? T = some { cls := .none, data := .fields (#[] ++ more) } := okE T _ hm
    obtain ⟨as, rd⟩ := Dw.reads (R := R) (cl := cl) okE (fun b o e => stays b o (fun z => by rw [z, tK] at e; cases e) (KX b o e)) d0 v u q rv
    refine ⟨u, as, rfl, rd, ⟨fun b o e => ?_, fun b o e => ?_⟩, os, bare⟩
    · by_cases z : b = T
      · subst z
        rw [tT] at e
        cases e
        exact .inr (.inl ⟨(hC.tab tT).isCodeTable, rfl, #[], more, rfl, grown⟩)
      · exact .inl (stays b o z e)
    · by_cases z : b = T
      · exact ⟨_, z ▸ grown⟩
      · exact ⟨o, stays b o z e⟩
end
/-- the row's goal from its def's promise, the table of the def x among what is tracked -/
theorem walk_tab {r : OpenSpec} {k : Nat} {q : Program} {loose : List Str} {XP : (Str → Option Value) → Heap → Prop} {YP : World → Heap → Prop} {d : DefRec} {K : Params → PySem.W.Frag} {CX : CXT} {ps : List Str} {x : Str} {sp : Addr → PySem.W.Frag → Sp}
    (hwell : r.wellSaid = true) (hlen : r.args.length = ps.length) (hr : Room k callerA) (hx : ((recsOf q).find? fun e => e.name == x).isSome = true) (hY : ∀ (w : World) (h : Heap), YP w h → (K w.params).In h)
    (F : ∀ (w : World) (mg : Str → Option Value) (fa : Addr) (h : Heap), YP w h → (K w.params).In h → h.Ns mainGlobals mg → mg d.name = some (.ref fa) →
      ∃ (fd : FuncData) (c T : Addr), PySem.W.tabIn (K w.params) x = some (c, T) ∧ (K w.params).lookup T = none ∧ (∀ (s : Shared) (us : List Value), us.length = ps.length → BindsTo s fd ⟨us, []⟩ (ps.zip us)) ∧
        ∀ base : Heap, (K w.params).In base → base.Ns mainGlobals mg → LamX.TabB base mg c T → FnOk r.prog w (K w.params) mg base CX k fa fd ps (sp T (K w.params)))
    (hsp : ∀ (K : PySem.W.Frag) (T : Addr) (H : Hp) (xs : List V) (a : Codec.denoteAll r.args), OnlyF H → H T = none → Codec.withinAll r.args a = true → Codec.app r.args r.asked a = true → DwAll K H xs (Codec.encAll r.args a) →
      sp T K xs (H1of H T) (fun v H' => Dw K H' v (r.ret.enc (Codec.app r.args r.f a))) fun _ _ _ => False)
    (hCX : ∀ (H : Hp) (s : Shared) (e : Value) (s' : Shared), CX [] H s (fun _ _ _ => False) e s' → False) :
    PySem.W.WalkOS q loose XP YP r d [] (fun f vs => PySem.call f vs) := by
  intro w s₀ s₁ mg mb G Y fa o pm cd doc dV kV ho hd hcd hD hmg hg args vals as hpre hlay hrd hwl hlo
  obtain ⟨a, ea, asked⟩ := PySem.W.os_pre_some hpre
  obtain ⟨rfl, hwi⟩ := Codec.encAll_of_decAll r.args args a ea
  have KX := hY w _ Y
  obtain ⟨fd, c, T, ht, hk, hb, hF⟩ := F w mg fa _ Y KX G.T.g hmg
  obtain ⟨dx, ex⟩ := Option.isSome_iff_exists.mp hx
  obtain ⟨hC, tT⟩ := PySem.W.tab_of G.T KX ex ht
  refine PySem.W.enter_call (codeAny_mono (call_tab (R := []) (cl := classAt s₀.heap) (d0 := r.ret.enc (Codec.app r.args r.f a)) KX G.T.g G.T.b G.T.builtins G.T.nolimit hg tT hk hC G.T.bmain hwl (pl_encAll _ _) (layable_weight hlay) hr hF hb ((encAll_len _ _).trans hlen)
    (fun H xs h1 h2 h3 => hsp _ T H xs a h1 h2 hwi asked h3) fun H e s' => hCX H s₁ e s') fun r' s' hq => ?_)
  obtain ⟨u, as', rfl, q1, q2, q3, q4⟩ := hq
  exact ⟨.inl ⟨u, _, as', rfl, fun _ => rfl, q1, (OpenSpec.post_iff hwell hwi _ _).mpr rfl, fun z => Bool.noConfusion (show false = true from z)⟩, q2, q3, q4⟩
end FS

set_option maxRecDepth 100000
set_option maxHeartbeats 4000000
namespace FS
open PySem PySem.Spec PyProof.Rows L2 Evl
theorem zero_choices {K : PySem.W.Frag} {L : Locs} (vs : List V) (H : Hp) (Q : VK) (E : XK) (h : sp_choices K L 0 vs H Q E) : False := by
  obtain ⟨_, _, _, _, _, h, _⟩ := h
  exact Nat.not_lt_zero _ h
theorem zero_best_from {K : PySem.W.Frag} {L : Locs} (vs : List V) (H : Hp) (Q : VK) (E : XK) (h : sp_best_from K L 0 vs H Q E) : False := by
  obtain ⟨_, _, _, _, _, _, _, _, _, _, _, _, _, _, _, _, _, h, _⟩ := h
  exact Nat.not_lt_zero _ h
/-- the row's promise, with the table where it lies -/
def rowP (T : Addr) (K : PySem.W.Frag) : Sp := fun vs H Q _ => ∃ ca ns, vs = [.ref ca] ∧ LamX.TabS H T tabQ ∧ ArgAt K H ca (ns.map V.int) ∧ PySu121.answers_asked ns = true ∧ ∀ H' p, H' p = some (.lst ((PySu121.answers ns).map V.int)) → Q (.ref p) H'
theorem argAt_of {K : PySem.W.Frag} {H : Hp} {a : Addr} {xs : List V} (hO : OnlyF H) (h : SqL K H a xs) : ArgAt K H a xs := by
  rcases h with (h | h) | h
  · rcases hO a with q | ⟨o, u, q⟩
    · rw [q] at h; cases h
    · rw [q] at h; cases h
  · exact .inl h
  · exact .inr fun _ => .inr h
theorem argAt_tab {K : PySem.W.Frag} {H : Hp} {a T : Addr} {xs : List V} (hO : OnlyF H) (hT : H T = none) (h : SqL K H a xs) : ArgAt K (upd H T (.tbl #[])) a xs := (argAt_of hO h).ex (Ex.new hT)
/-- an empty table tells nothing false -/
theorem tab_here {H : Hp} {T : Addr} : LamX.TabS (upd H T (.tbl #[])) T tabQ := ⟨#[], upd_same, trivial, fun pos cv h => by cases h⟩
end FS

set_option maxRecDepth 100000
set_option maxHeartbeats 4000000
namespace FS
open PySem PySem.Spec PyProof.Rows L2 Evl NdefX
theorem len_Ways_init {K : PySem.W.Frag} {L : Locs} (vs : List V) (H : Hp) (Q : VK) (E : XK) (h : sp_Ways_init K L vs H Q E) : vs.length = 3 := by
  first | (obtain ⟨_, rfl, _⟩ := h; rfl) | (obtain ⟨_, _, rfl, _⟩ := h; rfl) | (obtain ⟨_, _, _, rfl, _⟩ := h; rfl) | (obtain ⟨_, _, _, _, rfl, _⟩ := h; rfl) | (obtain ⟨_, _, _, _, _, rfl, _⟩ := h; rfl) | (obtain ⟨_, _, _, _, _, _, rfl, _⟩ := h; rfl) | (obtain ⟨_, _, _, _, _, _, _, rfl, _⟩ := h; rfl) | (obtain ⟨_, _, _, _, _, _, _, _, rfl, _⟩ := h; rfl) | (obtain ⟨_, _, _, _, _, _, _, _, _, rfl, _⟩ := h; rfl) | (obtain ⟨_, _, _, _, _, _, _, _, _, _, rfl, _⟩ := h; rfl) | (obtain ⟨_, _, _, _, _, _, _, _, _, _, _, rfl, _⟩ := h; rfl)
theorem len_neighbours {K : PySem.W.Frag} {L : Locs} (vs : List V) (H : Hp) (Q : VK) (E : XK) (h : sp_neighbours K L vs H Q E) : vs.length = 2 := by
  first | (obtain ⟨_, rfl, _⟩ := h; rfl) | (obtain ⟨_, _, rfl, _⟩ := h; rfl) | (obtain ⟨_, _, _, rfl, _⟩ := h; rfl) | (obtain ⟨_, _, _, _, rfl, _⟩ := h; rfl) | (obtain ⟨_, _, _, _, _, rfl, _⟩ := h; rfl) | (obtain ⟨_, _, _, _, _, _, rfl, _⟩ := h; rfl) | (obtain ⟨_, _, _, _, _, _, _, rfl, _⟩ := h; rfl) | (obtain ⟨_, _, _, _, _, _, _, _, rfl, _⟩ := h; rfl) | (obtain ⟨_, _, _, _, _, _, _, _, _, rfl, _⟩ := h; rfl) | (obtain ⟨_, _, _, _, _, _, _, _, _, _, rfl, _⟩ := h; rfl) | (obtain ⟨_, _, _, _, _, _, _, _, _, _, _, rfl, _⟩ := h; rfl)
theorem len_ways_to {K : PySem.W.Frag} {L : Locs} (vs : List V) (H : Hp) (Q : VK) (E : XK) (h : sp_ways_to K L vs H Q E) : vs.length = 2 := by
  first | (obtain ⟨_, rfl, _⟩ := h; rfl) | (obtain ⟨_, _, rfl, _⟩ := h; rfl) | (obtain ⟨_, _, _, rfl, _⟩ := h; rfl) | (obtain ⟨_, _, _, _, rfl, _⟩ := h; rfl) | (obtain ⟨_, _, _, _, _, rfl, _⟩ := h; rfl) | (obtain ⟨_, _, _, _, _, _, rfl, _⟩ := h; rfl) | (obtain ⟨_, _, _, _, _, _, _, rfl, _⟩ := h; rfl) | (obtain ⟨_, _, _, _, _, _, _, _, rfl, _⟩ := h; rfl) | (obtain ⟨_, _, _, _, _, _, _, _, _, rfl, _⟩ := h; rfl) | (obtain ⟨_, _, _, _, _, _, _, _, _, _, rfl, _⟩ := h; rfl) | (obtain ⟨_, _, _, _, _, _, _, _, _, _, _, rfl, _⟩ := h; rfl)
theorem len_further {K : PySem.W.Frag} {L : Locs} (vs : List V) (H : Hp) (Q : VK) (E : XK) (h : sp_further K L vs H Q E) : vs.length = 2 := by
  first | (obtain ⟨_, rfl, _⟩ := h; rfl) | (obtain ⟨_, _, rfl, _⟩ := h; rfl) | (obtain ⟨_, _, _, rfl, _⟩ := h; rfl) | (obtain ⟨_, _, _, _, rfl, _⟩ := h; rfl) | (obtain ⟨_, _, _, _, _, rfl, _⟩ := h; rfl) | (obtain ⟨_, _, _, _, _, _, rfl, _⟩ := h; rfl) | (obtain ⟨_, _, _, _, _, _, _, rfl, _⟩ := h; rfl) | (obtain ⟨_, _, _, _, _, _, _, _, rfl, _⟩ := h; rfl) | (obtain ⟨_, _, _, _, _, _, _, _, _, rfl, _⟩ := h; rfl) | (obtain ⟨_, _, _, _, _, _, _, _, _, _, rfl, _⟩ := h; rfl) | (obtain ⟨_, _, _, _, _, _, _, _, _, _, _, rfl, _⟩ := h; rfl)
theorem len_count_beyond {K : PySem.W.Frag} {L : Locs} (vs : List V) (H : Hp) (Q : VK) (E : XK) (h : sp_count_beyond K L vs H Q E) : vs.length = 2 := by
  first | (obtain ⟨_, rfl, _⟩ := h; rfl) | (obtain ⟨_, _, rfl, _⟩ := h; rfl) | (obtain ⟨_, _, _, rfl, _⟩ := h; rfl) | (obtain ⟨_, _, _, _, rfl, _⟩ := h; rfl) | (obtain ⟨_, _, _, _, _, rfl, _⟩ := h; rfl) | (obtain ⟨_, _, _, _, _, _, rfl, _⟩ := h; rfl) | (obtain ⟨_, _, _, _, _, _, _, rfl, _⟩ := h; rfl) | (obtain ⟨_, _, _, _, _, _, _, _, rfl, _⟩ := h; rfl) | (obtain ⟨_, _, _, _, _, _, _, _, _, rfl, _⟩ := h; rfl) | (obtain ⟨_, _, _, _, _, _, _, _, _, _, rfl, _⟩ := h; rfl) | (obtain ⟨_, _, _, _, _, _, _, _, _, _, _, rfl, _⟩ := h; rfl)
theorem len_first_front {K : PySem.W.Frag} {L : Locs} (vs : List V) (H : Hp) (Q : VK) (E : XK) (h : sp_first_front K L vs H Q E) : vs.length = 1 := by
  first | (obtain ⟨_, rfl, _⟩ := h; rfl) | (obtain ⟨_, _, rfl, _⟩ := h; rfl) | (obtain ⟨_, _, _, rfl, _⟩ := h; rfl) | (obtain ⟨_, _, _, _, rfl, _⟩ := h; rfl) | (obtain ⟨_, _, _, _, _, rfl, _⟩ := h; rfl) | (obtain ⟨_, _, _, _, _, _, rfl, _⟩ := h; rfl) | (obtain ⟨_, _, _, _, _, _, _, rfl, _⟩ := h; rfl) | (obtain ⟨_, _, _, _, _, _, _, _, rfl, _⟩ := h; rfl) | (obtain ⟨_, _, _, _, _, _, _, _, _, rfl, _⟩ := h; rfl) | (obtain ⟨_, _, _, _, _, _, _, _, _, _, rfl, _⟩ := h; rfl) | (obtain ⟨_, _, _, _, _, _, _, _, _, _, _, rfl, _⟩ := h; rfl)
theorem len_front_behind {K : PySem.W.Frag} {L : Locs} (vs : List V) (H : Hp) (Q : VK) (E : XK) (h : sp_front_behind K L vs H Q E) : vs.length = 3 := by
  first | (obtain ⟨_, rfl, _⟩ := h; rfl) | (obtain ⟨_, _, rfl, _⟩ := h; rfl) | (obtain ⟨_, _, _, rfl, _⟩ := h; rfl) | (obtain ⟨_, _, _, _, rfl, _⟩ := h; rfl) | (obtain ⟨_, _, _, _, _, rfl, _⟩ := h; rfl) | (obtain ⟨_, _, _, _, _, _, rfl, _⟩ := h; rfl) | (obtain ⟨_, _, _, _, _, _, _, rfl, _⟩ := h; rfl) | (obtain ⟨_, _, _, _, _, _, _, _, rfl, _⟩ := h; rfl) | (obtain ⟨_, _, _, _, _, _, _, _, _, rfl, _⟩ := h; rfl) | (obtain ⟨_, _, _, _, _, _, _, _, _, _, rfl, _⟩ := h; rfl) | (obtain ⟨_, _, _, _, _, _, _, _, _, _, _, rfl, _⟩ := h; rfl)
theorem len_choices {K : PySem.W.Frag} {L : Locs} (n : Nat) (vs : List V) (H : Hp) (Q : VK) (E : XK) (h : sp_choices K L n vs H Q E) : vs.length = 2 := by
  first | (obtain ⟨_, rfl, _⟩ := h; rfl) | (obtain ⟨_, _, rfl, _⟩ := h; rfl) | (obtain ⟨_, _, _, rfl, _⟩ := h; rfl) | (obtain ⟨_, _, _, _, rfl, _⟩ := h; rfl) | (obtain ⟨_, _, _, _, _, rfl, _⟩ := h; rfl) | (obtain ⟨_, _, _, _, _, _, rfl, _⟩ := h; rfl) | (obtain ⟨_, _, _, _, _, _, _, rfl, _⟩ := h; rfl) | (obtain ⟨_, _, _, _, _, _, _, _, rfl, _⟩ := h; rfl) | (obtain ⟨_, _, _, _, _, _, _, _, _, rfl, _⟩ := h; rfl) | (obtain ⟨_, _, _, _, _, _, _, _, _, _, rfl, _⟩ := h; rfl) | (obtain ⟨_, _, _, _, _, _, _, _, _, _, _, rfl, _⟩ := h; rfl)
theorem len_count_kept {K : PySem.W.Frag} {L : Locs} (vs : List V) (H : Hp) (Q : VK) (E : XK) (h : sp_count_kept K L vs H Q E) : vs.length = 2 := by
  first | (obtain ⟨_, rfl, _⟩ := h; rfl) | (obtain ⟨_, _, rfl, _⟩ := h; rfl) | (obtain ⟨_, _, _, rfl, _⟩ := h; rfl) | (obtain ⟨_, _, _, _, rfl, _⟩ := h; rfl) | (obtain ⟨_, _, _, _, _, rfl, _⟩ := h; rfl) | (obtain ⟨_, _, _, _, _, _, rfl, _⟩ := h; rfl) | (obtain ⟨_, _, _, _, _, _, _, rfl, _⟩ := h; rfl) | (obtain ⟨_, _, _, _, _, _, _, _, rfl, _⟩ := h; rfl) | (obtain ⟨_, _, _, _, _, _, _, _, _, rfl, _⟩ := h; rfl) | (obtain ⟨_, _, _, _, _, _, _, _, _, _, rfl, _⟩ := h; rfl) | (obtain ⟨_, _, _, _, _, _, _, _, _, _, _, rfl, _⟩ := h; rfl)
theorem len_best_from {K : PySem.W.Frag} {L : Locs} (n : Nat) (vs : List V) (H : Hp) (Q : VK) (E : XK) (h : sp_best_from K L n vs H Q E) : vs.length = 3 := by
  first | (obtain ⟨_, rfl, _⟩ := h; rfl) | (obtain ⟨_, _, rfl, _⟩ := h; rfl) | (obtain ⟨_, _, _, rfl, _⟩ := h; rfl) | (obtain ⟨_, _, _, _, rfl, _⟩ := h; rfl) | (obtain ⟨_, _, _, _, _, rfl, _⟩ := h; rfl) | (obtain ⟨_, _, _, _, _, _, rfl, _⟩ := h; rfl) | (obtain ⟨_, _, _, _, _, _, _, rfl, _⟩ := h; rfl) | (obtain ⟨_, _, _, _, _, _, _, _, rfl, _⟩ := h; rfl) | (obtain ⟨_, _, _, _, _, _, _, _, _, rfl, _⟩ := h; rfl) | (obtain ⟨_, _, _, _, _, _, _, _, _, _, rfl, _⟩ := h; rfl) | (obtain ⟨_, _, _, _, _, _, _, _, _, _, _, rfl, _⟩ := h; rfl)
theorem len_best_row {K : PySem.W.Frag} {L : Locs} (vs : List V) (H : Hp) (Q : VK) (E : XK) (h : sp_best_row K L vs H Q E) : vs.length = 2 := by
  first | (obtain ⟨_, rfl, _⟩ := h; rfl) | (obtain ⟨_, _, rfl, _⟩ := h; rfl) | (obtain ⟨_, _, _, rfl, _⟩ := h; rfl) | (obtain ⟨_, _, _, _, rfl, _⟩ := h; rfl) | (obtain ⟨_, _, _, _, _, rfl, _⟩ := h; rfl) | (obtain ⟨_, _, _, _, _, _, rfl, _⟩ := h; rfl) | (obtain ⟨_, _, _, _, _, _, _, rfl, _⟩ := h; rfl) | (obtain ⟨_, _, _, _, _, _, _, _, rfl, _⟩ := h; rfl) | (obtain ⟨_, _, _, _, _, _, _, _, _, rfl, _⟩ := h; rfl) | (obtain ⟨_, _, _, _, _, _, _, _, _, _, rfl, _⟩ := h; rfl) | (obtain ⟨_, _, _, _, _, _, _, _, _, _, _, rfl, _⟩ := h; rfl)
theorem len_greatest_first {K : PySem.W.Frag} {L : Locs} (vs : List V) (H : Hp) (Q : VK) (E : XK) (h : sp_greatest_first K L vs H Q E) : vs.length = 2 := by
  first | (obtain ⟨_, rfl, _⟩ := h; rfl) | (obtain ⟨_, _, rfl, _⟩ := h; rfl) | (obtain ⟨_, _, _, rfl, _⟩ := h; rfl) | (obtain ⟨_, _, _, _, rfl, _⟩ := h; rfl) | (obtain ⟨_, _, _, _, _, rfl, _⟩ := h; rfl) | (obtain ⟨_, _, _, _, _, _, rfl, _⟩ := h; rfl) | (obtain ⟨_, _, _, _, _, _, _, rfl, _⟩ := h; rfl) | (obtain ⟨_, _, _, _, _, _, _, _, rfl, _⟩ := h; rfl) | (obtain ⟨_, _, _, _, _, _, _, _, _, rfl, _⟩ := h; rfl) | (obtain ⟨_, _, _, _, _, _, _, _, _, _, rfl, _⟩ := h; rfl) | (obtain ⟨_, _, _, _, _, _, _, _, _, _, _, rfl, _⟩ := h; rfl)
theorem len_Session_init {K : PySem.W.Frag} {L : Locs} (vs : List V) (H : Hp) (Q : VK) (E : XK) (h : sp_Session_init K L vs H Q E) : vs.length = 1 := by
  first | (obtain ⟨_, rfl, _⟩ := h; rfl) | (obtain ⟨_, _, rfl, _⟩ := h; rfl) | (obtain ⟨_, _, _, rfl, _⟩ := h; rfl) | (obtain ⟨_, _, _, _, rfl, _⟩ := h; rfl) | (obtain ⟨_, _, _, _, _, rfl, _⟩ := h; rfl) | (obtain ⟨_, _, _, _, _, _, rfl, _⟩ := h; rfl) | (obtain ⟨_, _, _, _, _, _, _, rfl, _⟩ := h; rfl) | (obtain ⟨_, _, _, _, _, _, _, _, rfl, _⟩ := h; rfl) | (obtain ⟨_, _, _, _, _, _, _, _, _, rfl, _⟩ := h; rfl) | (obtain ⟨_, _, _, _, _, _, _, _, _, _, rfl, _⟩ := h; rfl) | (obtain ⟨_, _, _, _, _, _, _, _, _, _, _, rfl, _⟩ := h; rfl)
theorem len_put_fire_back {K : PySem.W.Frag} {L : Locs} (vs : List V) (H : Hp) (Q : VK) (E : XK) (h : sp_put_fire_back K L vs H Q E) : vs.length = 1 := by
  first | (obtain ⟨_, rfl, _⟩ := h; rfl) | (obtain ⟨_, _, rfl, _⟩ := h; rfl) | (obtain ⟨_, _, _, rfl, _⟩ := h; rfl) | (obtain ⟨_, _, _, _, rfl, _⟩ := h; rfl) | (obtain ⟨_, _, _, _, _, rfl, _⟩ := h; rfl) | (obtain ⟨_, _, _, _, _, _, rfl, _⟩ := h; rfl) | (obtain ⟨_, _, _, _, _, _, _, rfl, _⟩ := h; rfl) | (obtain ⟨_, _, _, _, _, _, _, _, rfl, _⟩ := h; rfl) | (obtain ⟨_, _, _, _, _, _, _, _, _, rfl, _⟩ := h; rfl) | (obtain ⟨_, _, _, _, _, _, _, _, _, _, rfl, _⟩ := h; rfl) | (obtain ⟨_, _, _, _, _, _, _, _, _, _, _, rfl, _⟩ := h; rfl)
theorem len_is_place {K : PySem.W.Frag} {L : Locs} (vs : List V) (H : Hp) (Q : VK) (E : XK) (h : sp_is_place K L vs H Q E) : vs.length = 2 := by
  first | (obtain ⟨_, rfl, _⟩ := h; rfl) | (obtain ⟨_, _, rfl, _⟩ := h; rfl) | (obtain ⟨_, _, _, rfl, _⟩ := h; rfl) | (obtain ⟨_, _, _, _, rfl, _⟩ := h; rfl) | (obtain ⟨_, _, _, _, _, rfl, _⟩ := h; rfl) | (obtain ⟨_, _, _, _, _, _, rfl, _⟩ := h; rfl) | (obtain ⟨_, _, _, _, _, _, _, rfl, _⟩ := h; rfl) | (obtain ⟨_, _, _, _, _, _, _, _, rfl, _⟩ := h; rfl) | (obtain ⟨_, _, _, _, _, _, _, _, _, rfl, _⟩ := h; rfl) | (obtain ⟨_, _, _, _, _, _, _, _, _, _, rfl, _⟩ := h; rfl) | (obtain ⟨_, _, _, _, _, _, _, _, _, _, _, rfl, _⟩ := h; rfl)
theorem len_is_under_way {K : PySem.W.Frag} {L : Locs} (vs : List V) (H : Hp) (Q : VK) (E : XK) (h : sp_is_under_way K L vs H Q E) : vs.length = 1 := by
  first | (obtain ⟨_, rfl, _⟩ := h; rfl) | (obtain ⟨_, _, rfl, _⟩ := h; rfl) | (obtain ⟨_, _, _, rfl, _⟩ := h; rfl) | (obtain ⟨_, _, _, _, rfl, _⟩ := h; rfl) | (obtain ⟨_, _, _, _, _, rfl, _⟩ := h; rfl) | (obtain ⟨_, _, _, _, _, _, rfl, _⟩ := h; rfl) | (obtain ⟨_, _, _, _, _, _, _, rfl, _⟩ := h; rfl) | (obtain ⟨_, _, _, _, _, _, _, _, rfl, _⟩ := h; rfl) | (obtain ⟨_, _, _, _, _, _, _, _, _, rfl, _⟩ := h; rfl) | (obtain ⟨_, _, _, _, _, _, _, _, _, _, rfl, _⟩ := h; rfl) | (obtain ⟨_, _, _, _, _, _, _, _, _, _, _, rfl, _⟩ := h; rfl)
theorem len_catches {K : PySem.W.Frag} {L : Locs} (vs : List V) (H : Hp) (Q : VK) (E : XK) (h : sp_catches K L vs H Q E) : vs.length = 3 := by
  first | (obtain ⟨_, rfl, _⟩ := h; rfl) | (obtain ⟨_, _, rfl, _⟩ := h; rfl) | (obtain ⟨_, _, _, rfl, _⟩ := h; rfl) | (obtain ⟨_, _, _, _, rfl, _⟩ := h; rfl) | (obtain ⟨_, _, _, _, _, rfl, _⟩ := h; rfl) | (obtain ⟨_, _, _, _, _, _, rfl, _⟩ := h; rfl) | (obtain ⟨_, _, _, _, _, _, _, rfl, _⟩ := h; rfl) | (obtain ⟨_, _, _, _, _, _, _, _, rfl, _⟩ := h; rfl) | (obtain ⟨_, _, _, _, _, _, _, _, _, rfl, _⟩ := h; rfl) | (obtain ⟨_, _, _, _, _, _, _, _, _, _, rfl, _⟩ := h; rfl) | (obtain ⟨_, _, _, _, _, _, _, _, _, _, _, rfl, _⟩ := h; rfl)
theorem len_gone_on {K : PySem.W.Frag} {L : Locs} (vs : List V) (H : Hp) (Q : VK) (E : XK) (h : sp_gone_on K L vs H Q E) : vs.length = 2 := by
  first | (obtain ⟨_, rfl, _⟩ := h; rfl) | (obtain ⟨_, _, rfl, _⟩ := h; rfl) | (obtain ⟨_, _, _, rfl, _⟩ := h; rfl) | (obtain ⟨_, _, _, _, rfl, _⟩ := h; rfl) | (obtain ⟨_, _, _, _, _, rfl, _⟩ := h; rfl) | (obtain ⟨_, _, _, _, _, _, rfl, _⟩ := h; rfl) | (obtain ⟨_, _, _, _, _, _, _, rfl, _⟩ := h; rfl) | (obtain ⟨_, _, _, _, _, _, _, _, rfl, _⟩ := h; rfl) | (obtain ⟨_, _, _, _, _, _, _, _, _, rfl, _⟩ := h; rfl) | (obtain ⟨_, _, _, _, _, _, _, _, _, _, rfl, _⟩ := h; rfl) | (obtain ⟨_, _, _, _, _, _, _, _, _, _, _, rfl, _⟩ := h; rfl)
theorem len_counted {K : PySem.W.Frag} {L : Locs} (vs : List V) (H : Hp) (Q : VK) (E : XK) (h : sp_counted K L vs H Q E) : vs.length = 1 := by
  first | (obtain ⟨_, rfl, _⟩ := h; rfl) | (obtain ⟨_, _, rfl, _⟩ := h; rfl) | (obtain ⟨_, _, _, rfl, _⟩ := h; rfl) | (obtain ⟨_, _, _, _, rfl, _⟩ := h; rfl) | (obtain ⟨_, _, _, _, _, rfl, _⟩ := h; rfl) | (obtain ⟨_, _, _, _, _, _, rfl, _⟩ := h; rfl) | (obtain ⟨_, _, _, _, _, _, _, rfl, _⟩ := h; rfl) | (obtain ⟨_, _, _, _, _, _, _, _, rfl, _⟩ := h; rfl) | (obtain ⟨_, _, _, _, _, _, _, _, _, rfl, _⟩ := h; rfl) | (obtain ⟨_, _, _, _, _, _, _, _, _, _, rfl, _⟩ := h; rfl) | (obtain ⟨_, _, _, _, _, _, _, _, _, _, _, rfl, _⟩ := h; rfl)
theorem len_begin {K : PySem.W.Frag} {L : Locs} (vs : List V) (H : Hp) (Q : VK) (E : XK) (h : sp_begin K L vs H Q E) : vs.length = 1 := by
  first | (obtain ⟨_, rfl, _⟩ := h; rfl) | (obtain ⟨_, _, rfl, _⟩ := h; rfl) | (obtain ⟨_, _, _, rfl, _⟩ := h; rfl) | (obtain ⟨_, _, _, _, rfl, _⟩ := h; rfl) | (obtain ⟨_, _, _, _, _, rfl, _⟩ := h; rfl) | (obtain ⟨_, _, _, _, _, _, rfl, _⟩ := h; rfl) | (obtain ⟨_, _, _, _, _, _, _, rfl, _⟩ := h; rfl) | (obtain ⟨_, _, _, _, _, _, _, _, rfl, _⟩ := h; rfl) | (obtain ⟨_, _, _, _, _, _, _, _, _, rfl, _⟩ := h; rfl) | (obtain ⟨_, _, _, _, _, _, _, _, _, _, rfl, _⟩ := h; rfl) | (obtain ⟨_, _, _, _, _, _, _, _, _, _, _, rfl, _⟩ := h; rfl)
theorem len_join {K : PySem.W.Frag} {L : Locs} (vs : List V) (H : Hp) (Q : VK) (E : XK) (h : sp_join K L vs H Q E) : vs.length = 2 := by
  first | (obtain ⟨_, rfl, _⟩ := h; rfl) | (obtain ⟨_, _, rfl, _⟩ := h; rfl) | (obtain ⟨_, _, _, rfl, _⟩ := h; rfl) | (obtain ⟨_, _, _, _, rfl, _⟩ := h; rfl) | (obtain ⟨_, _, _, _, _, rfl, _⟩ := h; rfl) | (obtain ⟨_, _, _, _, _, _, rfl, _⟩ := h; rfl) | (obtain ⟨_, _, _, _, _, _, _, rfl, _⟩ := h; rfl) | (obtain ⟨_, _, _, _, _, _, _, _, rfl, _⟩ := h; rfl) | (obtain ⟨_, _, _, _, _, _, _, _, _, rfl, _⟩ := h; rfl) | (obtain ⟨_, _, _, _, _, _, _, _, _, _, rfl, _⟩ := h; rfl) | (obtain ⟨_, _, _, _, _, _, _, _, _, _, _, rfl, _⟩ := h; rfl)
theorem len_drop {K : PySem.W.Frag} {L : Locs} (vs : List V) (H : Hp) (Q : VK) (E : XK) (h : sp_drop K L vs H Q E) : vs.length = 1 := by
  first | (obtain ⟨_, rfl, _⟩ := h; rfl) | (obtain ⟨_, _, rfl, _⟩ := h; rfl) | (obtain ⟨_, _, _, rfl, _⟩ := h; rfl) | (obtain ⟨_, _, _, _, rfl, _⟩ := h; rfl) | (obtain ⟨_, _, _, _, _, rfl, _⟩ := h; rfl) | (obtain ⟨_, _, _, _, _, _, rfl, _⟩ := h; rfl) | (obtain ⟨_, _, _, _, _, _, _, rfl, _⟩ := h; rfl) | (obtain ⟨_, _, _, _, _, _, _, _, rfl, _⟩ := h; rfl) | (obtain ⟨_, _, _, _, _, _, _, _, _, rfl, _⟩ := h; rfl) | (obtain ⟨_, _, _, _, _, _, _, _, _, _, rfl, _⟩ := h; rfl) | (obtain ⟨_, _, _, _, _, _, _, _, _, _, _, rfl, _⟩ := h; rfl)
theorem len_fire {K : PySem.W.Frag} {L : Locs} (vs : List V) (H : Hp) (Q : VK) (E : XK) (h : sp_fire K L vs H Q E) : vs.length = 2 := by
  first | (obtain ⟨_, rfl, _⟩ := h; rfl) | (obtain ⟨_, _, rfl, _⟩ := h; rfl) | (obtain ⟨_, _, _, rfl, _⟩ := h; rfl) | (obtain ⟨_, _, _, _, rfl, _⟩ := h; rfl) | (obtain ⟨_, _, _, _, _, rfl, _⟩ := h; rfl) | (obtain ⟨_, _, _, _, _, _, rfl, _⟩ := h; rfl) | (obtain ⟨_, _, _, _, _, _, _, rfl, _⟩ := h; rfl) | (obtain ⟨_, _, _, _, _, _, _, _, rfl, _⟩ := h; rfl) | (obtain ⟨_, _, _, _, _, _, _, _, _, rfl, _⟩ := h; rfl) | (obtain ⟨_, _, _, _, _, _, _, _, _, _, rfl, _⟩ := h; rfl) | (obtain ⟨_, _, _, _, _, _, _, _, _, _, _, rfl, _⟩ := h; rfl)
theorem len_each {K : PySem.W.Frag} {L : Locs} (vs : List V) (H : Hp) (Q : VK) (E : XK) (h : sp_each K L vs H Q E) : vs.length = 2 := by
  first | (obtain ⟨_, rfl, _⟩ := h; rfl) | (obtain ⟨_, _, rfl, _⟩ := h; rfl) | (obtain ⟨_, _, _, rfl, _⟩ := h; rfl) | (obtain ⟨_, _, _, _, rfl, _⟩ := h; rfl) | (obtain ⟨_, _, _, _, _, rfl, _⟩ := h; rfl) | (obtain ⟨_, _, _, _, _, _, rfl, _⟩ := h; rfl) | (obtain ⟨_, _, _, _, _, _, _, rfl, _⟩ := h; rfl) | (obtain ⟨_, _, _, _, _, _, _, _, rfl, _⟩ := h; rfl) | (obtain ⟨_, _, _, _, _, _, _, _, _, rfl, _⟩ := h; rfl) | (obtain ⟨_, _, _, _, _, _, _, _, _, _, rfl, _⟩ := h; rfl) | (obtain ⟨_, _, _, _, _, _, _, _, _, _, _, rfl, _⟩ := h; rfl)
theorem len_save {K : PySem.W.Frag} {L : Locs} (vs : List V) (H : Hp) (Q : VK) (E : XK) (h : sp_save K L vs H Q E) : vs.length = 2 := by
  first | (obtain ⟨_, rfl, _⟩ := h; rfl) | (obtain ⟨_, _, rfl, _⟩ := h; rfl) | (obtain ⟨_, _, _, rfl, _⟩ := h; rfl) | (obtain ⟨_, _, _, _, rfl, _⟩ := h; rfl) | (obtain ⟨_, _, _, _, _, rfl, _⟩ := h; rfl) | (obtain ⟨_, _, _, _, _, _, rfl, _⟩ := h; rfl) | (obtain ⟨_, _, _, _, _, _, _, rfl, _⟩ := h; rfl) | (obtain ⟨_, _, _, _, _, _, _, _, rfl, _⟩ := h; rfl) | (obtain ⟨_, _, _, _, _, _, _, _, _, rfl, _⟩ := h; rfl) | (obtain ⟨_, _, _, _, _, _, _, _, _, _, rfl, _⟩ := h; rfl) | (obtain ⟨_, _, _, _, _, _, _, _, _, _, _, rfl, _⟩ := h; rfl)
theorem len_turn {K : PySem.W.Frag} {L : Locs} (vs : List V) (H : Hp) (Q : VK) (E : XK) (h : sp_turn K L vs H Q E) : vs.length = 1 := by
  first | (obtain ⟨_, rfl, _⟩ := h; rfl) | (obtain ⟨_, _, rfl, _⟩ := h; rfl) | (obtain ⟨_, _, _, rfl, _⟩ := h; rfl) | (obtain ⟨_, _, _, _, rfl, _⟩ := h; rfl) | (obtain ⟨_, _, _, _, _, rfl, _⟩ := h; rfl) | (obtain ⟨_, _, _, _, _, _, rfl, _⟩ := h; rfl) | (obtain ⟨_, _, _, _, _, _, _, rfl, _⟩ := h; rfl) | (obtain ⟨_, _, _, _, _, _, _, _, rfl, _⟩ := h; rfl) | (obtain ⟨_, _, _, _, _, _, _, _, _, rfl, _⟩ := h; rfl) | (obtain ⟨_, _, _, _, _, _, _, _, _, _, rfl, _⟩ := h; rfl) | (obtain ⟨_, _, _, _, _, _, _, _, _, _, _, rfl, _⟩ := h; rfl)
theorem len_again {K : PySem.W.Frag} {L : Locs} (vs : List V) (H : Hp) (Q : VK) (E : XK) (h : sp_again K L vs H Q E) : vs.length = 1 := by
  first | (obtain ⟨_, rfl, _⟩ := h; rfl) | (obtain ⟨_, _, rfl, _⟩ := h; rfl) | (obtain ⟨_, _, _, rfl, _⟩ := h; rfl) | (obtain ⟨_, _, _, _, rfl, _⟩ := h; rfl) | (obtain ⟨_, _, _, _, _, rfl, _⟩ := h; rfl) | (obtain ⟨_, _, _, _, _, _, rfl, _⟩ := h; rfl) | (obtain ⟨_, _, _, _, _, _, _, rfl, _⟩ := h; rfl) | (obtain ⟨_, _, _, _, _, _, _, _, rfl, _⟩ := h; rfl) | (obtain ⟨_, _, _, _, _, _, _, _, _, rfl, _⟩ := h; rfl) | (obtain ⟨_, _, _, _, _, _, _, _, _, _, rfl, _⟩ := h; rfl) | (obtain ⟨_, _, _, _, _, _, _, _, _, _, _, rfl, _⟩ := h; rfl)
theorem len_burns {K : PySem.W.Frag} {L : Locs} (vs : List V) (H : Hp) (Q : VK) (E : XK) (h : sp_burns K L vs H Q E) : vs.length = 1 := by
  first | (obtain ⟨_, rfl, _⟩ := h; rfl) | (obtain ⟨_, _, rfl, _⟩ := h; rfl) | (obtain ⟨_, _, _, rfl, _⟩ := h; rfl) | (obtain ⟨_, _, _, _, rfl, _⟩ := h; rfl) | (obtain ⟨_, _, _, _, _, rfl, _⟩ := h; rfl) | (obtain ⟨_, _, _, _, _, _, rfl, _⟩ := h; rfl) | (obtain ⟨_, _, _, _, _, _, _, rfl, _⟩ := h; rfl) | (obtain ⟨_, _, _, _, _, _, _, _, rfl, _⟩ := h; rfl) | (obtain ⟨_, _, _, _, _, _, _, _, _, rfl, _⟩ := h; rfl) | (obtain ⟨_, _, _, _, _, _, _, _, _, _, rfl, _⟩ := h; rfl) | (obtain ⟨_, _, _, _, _, _, _, _, _, _, _, rfl, _⟩ := h; rfl)
theorem len_saved {K : PySem.W.Frag} {L : Locs} (vs : List V) (H : Hp) (Q : VK) (E : XK) (h : sp_saved K L vs H Q E) : vs.length = 1 := by
  first | (obtain ⟨_, rfl, _⟩ := h; rfl) | (obtain ⟨_, _, rfl, _⟩ := h; rfl) | (obtain ⟨_, _, _, rfl, _⟩ := h; rfl) | (obtain ⟨_, _, _, _, rfl, _⟩ := h; rfl) | (obtain ⟨_, _, _, _, _, rfl, _⟩ := h; rfl) | (obtain ⟨_, _, _, _, _, _, rfl, _⟩ := h; rfl) | (obtain ⟨_, _, _, _, _, _, _, rfl, _⟩ := h; rfl) | (obtain ⟨_, _, _, _, _, _, _, _, rfl, _⟩ := h; rfl) | (obtain ⟨_, _, _, _, _, _, _, _, _, rfl, _⟩ := h; rfl) | (obtain ⟨_, _, _, _, _, _, _, _, _, _, rfl, _⟩ := h; rfl) | (obtain ⟨_, _, _, _, _, _, _, _, _, _, _, rfl, _⟩ := h; rfl)
theorem len_safe {K : PySem.W.Frag} {L : Locs} (vs : List V) (H : Hp) (Q : VK) (E : XK) (h : sp_safe K L vs H Q E) : vs.length = 1 := by
  first | (obtain ⟨_, rfl, _⟩ := h; rfl) | (obtain ⟨_, _, rfl, _⟩ := h; rfl) | (obtain ⟨_, _, _, rfl, _⟩ := h; rfl) | (obtain ⟨_, _, _, _, rfl, _⟩ := h; rfl) | (obtain ⟨_, _, _, _, _, rfl, _⟩ := h; rfl) | (obtain ⟨_, _, _, _, _, _, rfl, _⟩ := h; rfl) | (obtain ⟨_, _, _, _, _, _, _, rfl, _⟩ := h; rfl) | (obtain ⟨_, _, _, _, _, _, _, _, rfl, _⟩ := h; rfl) | (obtain ⟨_, _, _, _, _, _, _, _, _, rfl, _⟩ := h; rfl) | (obtain ⟨_, _, _, _, _, _, _, _, _, _, rfl, _⟩ := h; rfl) | (obtain ⟨_, _, _, _, _, _, _, _, _, _, _, rfl, _⟩ := h; rfl)
theorem len_state {K : PySem.W.Frag} {L : Locs} (vs : List V) (H : Hp) (Q : VK) (E : XK) (h : sp_state K L vs H Q E) : vs.length = 1 := by
  first | (obtain ⟨_, rfl, _⟩ := h; rfl) | (obtain ⟨_, _, rfl, _⟩ := h; rfl) | (obtain ⟨_, _, _, rfl, _⟩ := h; rfl) | (obtain ⟨_, _, _, _, rfl, _⟩ := h; rfl) | (obtain ⟨_, _, _, _, _, rfl, _⟩ := h; rfl) | (obtain ⟨_, _, _, _, _, _, rfl, _⟩ := h; rfl) | (obtain ⟨_, _, _, _, _, _, _, rfl, _⟩ := h; rfl) | (obtain ⟨_, _, _, _, _, _, _, _, rfl, _⟩ := h; rfl) | (obtain ⟨_, _, _, _, _, _, _, _, _, rfl, _⟩ := h; rfl) | (obtain ⟨_, _, _, _, _, _, _, _, _, _, rfl, _⟩ := h; rfl) | (obtain ⟨_, _, _, _, _, _, _, _, _, _, _, rfl, _⟩ := h; rfl)
theorem len_ways_now {K : PySem.W.Frag} {L : Locs} (vs : List V) (H : Hp) (Q : VK) (E : XK) (h : sp_ways_now K L vs H Q E) : vs.length = 1 := by
  first | (obtain ⟨_, rfl, _⟩ := h; rfl) | (obtain ⟨_, _, rfl, _⟩ := h; rfl) | (obtain ⟨_, _, _, rfl, _⟩ := h; rfl) | (obtain ⟨_, _, _, _, rfl, _⟩ := h; rfl) | (obtain ⟨_, _, _, _, _, rfl, _⟩ := h; rfl) | (obtain ⟨_, _, _, _, _, _, rfl, _⟩ := h; rfl) | (obtain ⟨_, _, _, _, _, _, _, rfl, _⟩ := h; rfl) | (obtain ⟨_, _, _, _, _, _, _, _, rfl, _⟩ := h; rfl) | (obtain ⟨_, _, _, _, _, _, _, _, _, rfl, _⟩ := h; rfl) | (obtain ⟨_, _, _, _, _, _, _, _, _, _, rfl, _⟩ := h; rfl) | (obtain ⟨_, _, _, _, _, _, _, _, _, _, _, rfl, _⟩ := h; rfl)
theorem len_are_in_range {K : PySem.W.Frag} {L : Locs} (vs : List V) (H : Hp) (Q : VK) (E : XK) (h : sp_are_in_range K L vs H Q E) : vs.length = 2 := by
  first | (obtain ⟨_, rfl, _⟩ := h; rfl) | (obtain ⟨_, _, rfl, _⟩ := h; rfl) | (obtain ⟨_, _, _, rfl, _⟩ := h; rfl) | (obtain ⟨_, _, _, _, rfl, _⟩ := h; rfl) | (obtain ⟨_, _, _, _, _, rfl, _⟩ := h; rfl) | (obtain ⟨_, _, _, _, _, _, rfl, _⟩ := h; rfl) | (obtain ⟨_, _, _, _, _, _, _, rfl, _⟩ := h; rfl) | (obtain ⟨_, _, _, _, _, _, _, _, rfl, _⟩ := h; rfl) | (obtain ⟨_, _, _, _, _, _, _, _, _, rfl, _⟩ := h; rfl) | (obtain ⟨_, _, _, _, _, _, _, _, _, _, rfl, _⟩ := h; rfl) | (obtain ⟨_, _, _, _, _, _, _, _, _, _, _, rfl, _⟩ := h; rfl)
theorem len_at_beginning {K : PySem.W.Frag} {L : Locs} (vs : List V) (H : Hp) (Q : VK) (E : XK) (h : sp_at_beginning K L vs H Q E) : vs.length = 1 := by
  first | (obtain ⟨_, rfl, _⟩ := h; rfl) | (obtain ⟨_, _, rfl, _⟩ := h; rfl) | (obtain ⟨_, _, _, rfl, _⟩ := h; rfl) | (obtain ⟨_, _, _, _, rfl, _⟩ := h; rfl) | (obtain ⟨_, _, _, _, _, rfl, _⟩ := h; rfl) | (obtain ⟨_, _, _, _, _, _, rfl, _⟩ := h; rfl) | (obtain ⟨_, _, _, _, _, _, _, rfl, _⟩ := h; rfl) | (obtain ⟨_, _, _, _, _, _, _, _, rfl, _⟩ := h; rfl) | (obtain ⟨_, _, _, _, _, _, _, _, _, rfl, _⟩ := h; rfl) | (obtain ⟨_, _, _, _, _, _, _, _, _, _, rfl, _⟩ := h; rfl) | (obtain ⟨_, _, _, _, _, _, _, _, _, _, _, rfl, _⟩ := h; rfl)
theorem len_most_kept {K : PySem.W.Frag} {L : Locs} (vs : List V) (H : Hp) (Q : VK) (E : XK) (h : sp_most_kept K L vs H Q E) : vs.length = 3 := by
  first | (obtain ⟨_, rfl, _⟩ := h; rfl) | (obtain ⟨_, _, rfl, _⟩ := h; rfl) | (obtain ⟨_, _, _, rfl, _⟩ := h; rfl) | (obtain ⟨_, _, _, _, rfl, _⟩ := h; rfl) | (obtain ⟨_, _, _, _, _, rfl, _⟩ := h; rfl) | (obtain ⟨_, _, _, _, _, _, rfl, _⟩ := h; rfl) | (obtain ⟨_, _, _, _, _, _, _, rfl, _⟩ := h; rfl) | (obtain ⟨_, _, _, _, _, _, _, _, rfl, _⟩ := h; rfl) | (obtain ⟨_, _, _, _, _, _, _, _, _, rfl, _⟩ := h; rfl) | (obtain ⟨_, _, _, _, _, _, _, _, _, _, rfl, _⟩ := h; rfl) | (obtain ⟨_, _, _, _, _, _, _, _, _, _, _, rfl, _⟩ := h; rfl)
theorem len_most_by_origin {K : PySem.W.Frag} {L : Locs} (vs : List V) (H : Hp) (Q : VK) (E : XK) (h : sp_most_by_origin K L vs H Q E) : vs.length = 1 := by
  first | (obtain ⟨_, rfl, _⟩ := h; rfl) | (obtain ⟨_, _, rfl, _⟩ := h; rfl) | (obtain ⟨_, _, _, rfl, _⟩ := h; rfl) | (obtain ⟨_, _, _, _, rfl, _⟩ := h; rfl) | (obtain ⟨_, _, _, _, _, rfl, _⟩ := h; rfl) | (obtain ⟨_, _, _, _, _, _, rfl, _⟩ := h; rfl) | (obtain ⟨_, _, _, _, _, _, _, rfl, _⟩ := h; rfl) | (obtain ⟨_, _, _, _, _, _, _, _, rfl, _⟩ := h; rfl) | (obtain ⟨_, _, _, _, _, _, _, _, _, rfl, _⟩ := h; rfl) | (obtain ⟨_, _, _, _, _, _, _, _, _, _, rfl, _⟩ := h; rfl) | (obtain ⟨_, _, _, _, _, _, _, _, _, _, _, rfl, _⟩ := h; rfl)
theorem len_best {K : PySem.W.Frag} {L : Locs} (vs : List V) (H : Hp) (Q : VK) (E : XK) (h : sp_best K L vs H Q E) : vs.length = 1 := by
  first | (obtain ⟨_, rfl, _⟩ := h; rfl) | (obtain ⟨_, _, rfl, _⟩ := h; rfl) | (obtain ⟨_, _, _, rfl, _⟩ := h; rfl) | (obtain ⟨_, _, _, _, rfl, _⟩ := h; rfl) | (obtain ⟨_, _, _, _, _, rfl, _⟩ := h; rfl) | (obtain ⟨_, _, _, _, _, _, rfl, _⟩ := h; rfl) | (obtain ⟨_, _, _, _, _, _, _, rfl, _⟩ := h; rfl) | (obtain ⟨_, _, _, _, _, _, _, _, rfl, _⟩ := h; rfl) | (obtain ⟨_, _, _, _, _, _, _, _, _, rfl, _⟩ := h; rfl) | (obtain ⟨_, _, _, _, _, _, _, _, _, _, rfl, _⟩ := h; rfl) | (obtain ⟨_, _, _, _, _, _, _, _, _, _, _, rfl, _⟩ := h; rfl)
theorem len_greedy {K : PySem.W.Frag} {L : Locs} (vs : List V) (H : Hp) (Q : VK) (E : XK) (h : sp_greedy K L vs H Q E) : vs.length = 1 := by
  first | (obtain ⟨_, rfl, _⟩ := h; rfl) | (obtain ⟨_, _, rfl, _⟩ := h; rfl) | (obtain ⟨_, _, _, rfl, _⟩ := h; rfl) | (obtain ⟨_, _, _, _, rfl, _⟩ := h; rfl) | (obtain ⟨_, _, _, _, _, rfl, _⟩ := h; rfl) | (obtain ⟨_, _, _, _, _, _, rfl, _⟩ := h; rfl) | (obtain ⟨_, _, _, _, _, _, _, rfl, _⟩ := h; rfl) | (obtain ⟨_, _, _, _, _, _, _, _, rfl, _⟩ := h; rfl) | (obtain ⟨_, _, _, _, _, _, _, _, _, rfl, _⟩ := h; rfl) | (obtain ⟨_, _, _, _, _, _, _, _, _, _, rfl, _⟩ := h; rfl) | (obtain ⟨_, _, _, _, _, _, _, _, _, _, _, rfl, _⟩ := h; rfl)
theorem len_run {K : PySem.W.Frag} {L : Locs} (vs : List V) (H : Hp) (Q : VK) (E : XK) (h : sp_run K L vs H Q E) : vs.length = 2 := by
  first | (obtain ⟨_, rfl, _⟩ := h; rfl) | (obtain ⟨_, _, rfl, _⟩ := h; rfl) | (obtain ⟨_, _, _, rfl, _⟩ := h; rfl) | (obtain ⟨_, _, _, _, rfl, _⟩ := h; rfl) | (obtain ⟨_, _, _, _, _, rfl, _⟩ := h; rfl) | (obtain ⟨_, _, _, _, _, _, rfl, _⟩ := h; rfl) | (obtain ⟨_, _, _, _, _, _, _, rfl, _⟩ := h; rfl) | (obtain ⟨_, _, _, _, _, _, _, _, rfl, _⟩ := h; rfl) | (obtain ⟨_, _, _, _, _, _, _, _, _, rfl, _⟩ := h; rfl) | (obtain ⟨_, _, _, _, _, _, _, _, _, _, rfl, _⟩ := h; rfl) | (obtain ⟨_, _, _, _, _, _, _, _, _, _, _, rfl, _⟩ := h; rfl)
theorem len_size {K : PySem.W.Frag} {L : Locs} (vs : List V) (H : Hp) (Q : VK) (E : XK) (h : sp_size K L vs H Q E) : vs.length = 2 := by
  first | (obtain ⟨_, rfl, _⟩ := h; rfl) | (obtain ⟨_, _, rfl, _⟩ := h; rfl) | (obtain ⟨_, _, _, rfl, _⟩ := h; rfl) | (obtain ⟨_, _, _, _, rfl, _⟩ := h; rfl) | (obtain ⟨_, _, _, _, _, rfl, _⟩ := h; rfl) | (obtain ⟨_, _, _, _, _, _, rfl, _⟩ := h; rfl) | (obtain ⟨_, _, _, _, _, _, _, rfl, _⟩ := h; rfl) | (obtain ⟨_, _, _, _, _, _, _, _, rfl, _⟩ := h; rfl) | (obtain ⟨_, _, _, _, _, _, _, _, _, rfl, _⟩ := h; rfl) | (obtain ⟨_, _, _, _, _, _, _, _, _, _, rfl, _⟩ := h; rfl) | (obtain ⟨_, _, _, _, _, _, _, _, _, _, _, rfl, _⟩ := h; rfl)
theorem len_deep {K : PySem.W.Frag} {L : Locs} (vs : List V) (H : Hp) (Q : VK) (E : XK) (h : sp_deep K L vs H Q E) : vs.length = 2 := by
  first | (obtain ⟨_, rfl, _⟩ := h; rfl) | (obtain ⟨_, _, rfl, _⟩ := h; rfl) | (obtain ⟨_, _, _, rfl, _⟩ := h; rfl) | (obtain ⟨_, _, _, _, rfl, _⟩ := h; rfl) | (obtain ⟨_, _, _, _, _, rfl, _⟩ := h; rfl) | (obtain ⟨_, _, _, _, _, _, rfl, _⟩ := h; rfl) | (obtain ⟨_, _, _, _, _, _, _, rfl, _⟩ := h; rfl) | (obtain ⟨_, _, _, _, _, _, _, _, rfl, _⟩ := h; rfl) | (obtain ⟨_, _, _, _, _, _, _, _, _, rfl, _⟩ := h; rfl) | (obtain ⟨_, _, _, _, _, _, _, _, _, _, rfl, _⟩ := h; rfl) | (obtain ⟨_, _, _, _, _, _, _, _, _, _, _, rfl, _⟩ := h; rfl)
theorem len_level {K : PySem.W.Frag} {L : Locs} (vs : List V) (H : Hp) (Q : VK) (E : XK) (h : sp_level K L vs H Q E) : vs.length = 2 := by
  first | (obtain ⟨_, rfl, _⟩ := h; rfl) | (obtain ⟨_, _, rfl, _⟩ := h; rfl) | (obtain ⟨_, _, _, rfl, _⟩ := h; rfl) | (obtain ⟨_, _, _, _, rfl, _⟩ := h; rfl) | (obtain ⟨_, _, _, _, _, rfl, _⟩ := h; rfl) | (obtain ⟨_, _, _, _, _, _, rfl, _⟩ := h; rfl) | (obtain ⟨_, _, _, _, _, _, _, rfl, _⟩ := h; rfl) | (obtain ⟨_, _, _, _, _, _, _, _, rfl, _⟩ := h; rfl) | (obtain ⟨_, _, _, _, _, _, _, _, _, rfl, _⟩ := h; rfl) | (obtain ⟨_, _, _, _, _, _, _, _, _, _, rfl, _⟩ := h; rfl) | (obtain ⟨_, _, _, _, _, _, _, _, _, _, _, rfl, _⟩ := h; rfl)
theorem len_kept {K : PySem.W.Frag} {L : Locs} (vs : List V) (H : Hp) (Q : VK) (E : XK) (h : sp_kept K L vs H Q E) : vs.length = 2 := by
  first | (obtain ⟨_, rfl, _⟩ := h; rfl) | (obtain ⟨_, _, rfl, _⟩ := h; rfl) | (obtain ⟨_, _, _, rfl, _⟩ := h; rfl) | (obtain ⟨_, _, _, _, rfl, _⟩ := h; rfl) | (obtain ⟨_, _, _, _, _, rfl, _⟩ := h; rfl) | (obtain ⟨_, _, _, _, _, _, rfl, _⟩ := h; rfl) | (obtain ⟨_, _, _, _, _, _, _, rfl, _⟩ := h; rfl) | (obtain ⟨_, _, _, _, _, _, _, _, rfl, _⟩ := h; rfl) | (obtain ⟨_, _, _, _, _, _, _, _, _, rfl, _⟩ := h; rfl) | (obtain ⟨_, _, _, _, _, _, _, _, _, _, rfl, _⟩ := h; rfl) | (obtain ⟨_, _, _, _, _, _, _, _, _, _, _, rfl, _⟩ := h; rfl)
theorem len_worst {K : PySem.W.Frag} {L : Locs} (vs : List V) (H : Hp) (Q : VK) (E : XK) (h : sp_worst K L vs H Q E) : vs.length = 1 := by
  first | (obtain ⟨_, rfl, _⟩ := h; rfl) | (obtain ⟨_, _, rfl, _⟩ := h; rfl) | (obtain ⟨_, _, _, rfl, _⟩ := h; rfl) | (obtain ⟨_, _, _, _, rfl, _⟩ := h; rfl) | (obtain ⟨_, _, _, _, _, rfl, _⟩ := h; rfl) | (obtain ⟨_, _, _, _, _, _, rfl, _⟩ := h; rfl) | (obtain ⟨_, _, _, _, _, _, _, rfl, _⟩ := h; rfl) | (obtain ⟨_, _, _, _, _, _, _, _, rfl, _⟩ := h; rfl) | (obtain ⟨_, _, _, _, _, _, _, _, _, rfl, _⟩ := h; rfl) | (obtain ⟨_, _, _, _, _, _, _, _, _, _, rfl, _⟩ := h; rfl) | (obtain ⟨_, _, _, _, _, _, _, _, _, _, _, rfl, _⟩ := h; rfl)
theorem len_from_all {K : PySem.W.Frag} {L : Locs} (vs : List V) (H : Hp) (Q : VK) (E : XK) (h : sp_from_all K L vs H Q E) : vs.length = 1 := by
  first | (obtain ⟨_, rfl, _⟩ := h; rfl) | (obtain ⟨_, _, rfl, _⟩ := h; rfl) | (obtain ⟨_, _, _, rfl, _⟩ := h; rfl) | (obtain ⟨_, _, _, _, rfl, _⟩ := h; rfl) | (obtain ⟨_, _, _, _, _, rfl, _⟩ := h; rfl) | (obtain ⟨_, _, _, _, _, _, rfl, _⟩ := h; rfl) | (obtain ⟨_, _, _, _, _, _, _, rfl, _⟩ := h; rfl) | (obtain ⟨_, _, _, _, _, _, _, _, rfl, _⟩ := h; rfl) | (obtain ⟨_, _, _, _, _, _, _, _, _, rfl, _⟩ := h; rfl) | (obtain ⟨_, _, _, _, _, _, _, _, _, _, rfl, _⟩ := h; rfl) | (obtain ⟨_, _, _, _, _, _, _, _, _, _, _, rfl, _⟩ := h; rfl)
theorem len_mores {K : PySem.W.Frag} {L : Locs} (vs : List V) (H : Hp) (Q : VK) (E : XK) (h : sp_mores K L vs H Q E) : vs.length = 1 := by
  first | (obtain ⟨_, rfl, _⟩ := h; rfl) | (obtain ⟨_, _, rfl, _⟩ := h; rfl) | (obtain ⟨_, _, _, rfl, _⟩ := h; rfl) | (obtain ⟨_, _, _, _, rfl, _⟩ := h; rfl) | (obtain ⟨_, _, _, _, _, rfl, _⟩ := h; rfl) | (obtain ⟨_, _, _, _, _, _, rfl, _⟩ := h; rfl) | (obtain ⟨_, _, _, _, _, _, _, rfl, _⟩ := h; rfl) | (obtain ⟨_, _, _, _, _, _, _, _, rfl, _⟩ := h; rfl) | (obtain ⟨_, _, _, _, _, _, _, _, _, rfl, _⟩ := h; rfl) | (obtain ⟨_, _, _, _, _, _, _, _, _, _, rfl, _⟩ := h; rfl) | (obtain ⟨_, _, _, _, _, _, _, _, _, _, _, rfl, _⟩ := h; rfl)
theorem len_end_of_call {K : PySem.W.Frag} {L : Locs} (vs : List V) (H : Hp) (Q : VK) (E : XK) (h : sp_end_of_call K L vs H Q E) : vs.length = 2 := by
  first | (obtain ⟨_, rfl, _⟩ := h; rfl) | (obtain ⟨_, _, rfl, _⟩ := h; rfl) | (obtain ⟨_, _, _, rfl, _⟩ := h; rfl) | (obtain ⟨_, _, _, _, rfl, _⟩ := h; rfl) | (obtain ⟨_, _, _, _, _, rfl, _⟩ := h; rfl) | (obtain ⟨_, _, _, _, _, _, rfl, _⟩ := h; rfl) | (obtain ⟨_, _, _, _, _, _, _, rfl, _⟩ := h; rfl) | (obtain ⟨_, _, _, _, _, _, _, _, rfl, _⟩ := h; rfl) | (obtain ⟨_, _, _, _, _, _, _, _, _, rfl, _⟩ := h; rfl) | (obtain ⟨_, _, _, _, _, _, _, _, _, _, rfl, _⟩ := h; rfl) | (obtain ⟨_, _, _, _, _, _, _, _, _, _, _, rfl, _⟩ := h; rfl)
theorem len_answer_of {K : PySem.W.Frag} {L : Locs} (vs : List V) (H : Hp) (Q : VK) (E : XK) (h : sp_answer_of K L vs H Q E) : vs.length = 3 := by
  first | (obtain ⟨_, rfl, _⟩ := h; rfl) | (obtain ⟨_, _, rfl, _⟩ := h; rfl) | (obtain ⟨_, _, _, rfl, _⟩ := h; rfl) | (obtain ⟨_, _, _, _, rfl, _⟩ := h; rfl) | (obtain ⟨_, _, _, _, _, rfl, _⟩ := h; rfl) | (obtain ⟨_, _, _, _, _, _, rfl, _⟩ := h; rfl) | (obtain ⟨_, _, _, _, _, _, _, rfl, _⟩ := h; rfl) | (obtain ⟨_, _, _, _, _, _, _, _, rfl, _⟩ := h; rfl) | (obtain ⟨_, _, _, _, _, _, _, _, _, rfl, _⟩ := h; rfl) | (obtain ⟨_, _, _, _, _, _, _, _, _, _, rfl, _⟩ := h; rfl) | (obtain ⟨_, _, _, _, _, _, _, _, _, _, _, rfl, _⟩ := h; rfl)
theorem len_answers {K : PySem.W.Frag} {L : Locs} (vs : List V) (H : Hp) (Q : VK) (E : XK) (h : sp_answers K L vs H Q E) : vs.length = 1 := by
  first | (obtain ⟨_, rfl, _⟩ := h; rfl) | (obtain ⟨_, _, rfl, _⟩ := h; rfl) | (obtain ⟨_, _, _, rfl, _⟩ := h; rfl) | (obtain ⟨_, _, _, _, rfl, _⟩ := h; rfl) | (obtain ⟨_, _, _, _, _, rfl, _⟩ := h; rfl) | (obtain ⟨_, _, _, _, _, _, rfl, _⟩ := h; rfl) | (obtain ⟨_, _, _, _, _, _, _, rfl, _⟩ := h; rfl) | (obtain ⟨_, _, _, _, _, _, _, _, rfl, _⟩ := h; rfl) | (obtain ⟨_, _, _, _, _, _, _, _, _, rfl, _⟩ := h; rfl) | (obtain ⟨_, _, _, _, _, _, _, _, _, _, rfl, _⟩ := h; rfl) | (obtain ⟨_, _, _, _, _, _, _, _, _, _, _, rfl, _⟩ := h; rfl)
theorem all_mk {P : Program} {w : World} {K : PySem.W.Frag} {h : Heap} {mg : Str → Option Value} {fa : Addr} (X : K.In h) (G : h.Ns mainGlobals mg) (hfa : mg "answers" = some (.ref fa))
    {C_Ways C_Session cod tab a_PLAIN_CALLS a_NUMBER_CALLS a_PLAIN_QUESTIONS a_NUMBER_QUESTIONS a_ROW_QUESTIONS f_neighbours f_ways_to f_further f_count_beyond f_first_front f_front_behind f_choices f_count_kept f_best_from f_best_row f_greatest_first f_put_fire_back f_is_place f_is_under_way f_catches f_gone_on f_counted f_begin f_join f_drop f_fire f_each f_save f_turn f_again f_burns f_saved f_safe f_state f_ways_now f_are_in_range f_at_beginning f_most_kept f_most_by_origin f_best f_greedy f_run f_size f_deep f_level f_kept f_worst f_from_all f_mores f_end_of_call f_answer_of f_answers i_Ways_init i_Session_init : Addr}
    {oc_neighbours kV_neighbours dc_neighbours pm_neighbours cd_neighbours ct_neighbours oc_ways_to kV_ways_to dc_ways_to pm_ways_to cd_ways_to ct_ways_to oc_further kV_further dc_further pm_further cd_further ct_further oc_count_beyond kV_count_beyond dc_count_beyond pm_count_beyond cd_count_beyond ct_count_beyond oc_first_front kV_first_front dc_first_front pm_first_front cd_first_front ct_first_front oc_front_behind kV_front_behind dc_front_behind pm_front_behind cd_front_behind ct_front_behind oc_choices kV_choices dc_choices pm_choices cd_choices ct_choices oc_count_kept kV_count_kept dc_count_kept pm_count_kept cd_count_kept ct_count_kept oc_best_from kV_best_from dc_best_from pm_best_from cd_best_from ct_best_from oc_best_row kV_best_row dc_best_row pm_best_row cd_best_row ct_best_row oc_greatest_first kV_greatest_first dc_greatest_first pm_greatest_first ct_greatest_first oc_put_fire_back kV_put_fire_back dc_put_fire_back pm_put_fire_back cd_put_fire_back ct_put_fire_back oc_is_place kV_is_place dc_is_place pm_is_place cd_is_place ct_is_place oc_is_under_way kV_is_under_way dc_is_under_way pm_is_under_way cd_is_under_way ct_is_under_way oc_catches kV_catches dc_catches pm_catches cd_catches ct_catches oc_gone_on kV_gone_on dc_gone_on pm_gone_on cd_gone_on ct_gone_on oc_counted kV_counted dc_counted pm_counted cd_counted ct_counted oc_begin kV_begin dc_begin pm_begin cd_begin ct_begin oc_join kV_join dc_join pm_join cd_join ct_join oc_drop kV_drop dc_drop pm_drop cd_drop ct_drop oc_fire kV_fire dc_fire pm_fire cd_fire ct_fire oc_each kV_each dc_each pm_each cd_each ct_each oc_save kV_save dc_save pm_save cd_save ct_save oc_turn kV_turn dc_turn pm_turn cd_turn ct_turn oc_again kV_again dc_again pm_again cd_again ct_again oc_burns kV_burns dc_burns pm_burns cd_burns ct_burns oc_saved kV_saved dc_saved pm_saved cd_saved ct_saved oc_safe kV_safe dc_safe pm_safe cd_safe ct_safe oc_state kV_state dc_state pm_state cd_state ct_state oc_ways_now kV_ways_now dc_ways_now pm_ways_now cd_ways_now ct_ways_now oc_are_in_range kV_are_in_range dc_are_in_range pm_are_in_range cd_are_in_range ct_are_in_range oc_at_beginning kV_at_beginning dc_at_beginning pm_at_beginning cd_at_beginning ct_at_beginning oc_most_kept kV_most_kept dc_most_kept pm_most_kept cd_most_kept ct_most_kept oc_most_by_origin kV_most_by_origin dc_most_by_origin pm_most_by_origin cd_most_by_origin ct_most_by_origin oc_best kV_best dc_best pm_best cd_best ct_best oc_greedy kV_greedy dc_greedy pm_greedy cd_greedy ct_greedy oc_run kV_run dc_run pm_run cd_run ct_run oc_size kV_size dc_size pm_size cd_size ct_size oc_deep kV_deep dc_deep pm_deep cd_deep ct_deep oc_level kV_level dc_level pm_level cd_level ct_level oc_kept kV_kept dc_kept pm_kept cd_kept ct_kept oc_worst kV_worst dc_worst pm_worst cd_worst ct_worst oc_from_all kV_from_all dc_from_all pm_from_all cd_from_all ct_from_all oc_mores kV_mores dc_mores pm_mores cd_mores ct_mores oc_end_of_call kV_end_of_call dc_end_of_call pm_end_of_call cd_end_of_call ct_end_of_call oc_answer_of kV_answer_of dc_answer_of pm_answer_of cd_answer_of ct_answer_of oc_answers kV_answers dc_answers pm_answers cd_answers ct_answers oc_Ways_init kV_Ways_init dc_Ways_init pm_Ways_init cd_Ways_init ct_Ways_init oc_Session_init kV_Session_init dc_Session_init pm_Session_init cd_Session_init ct_Session_init : Value}
    {od_neighbours an_neighbours od_ways_to an_ways_to od_further an_further od_count_beyond an_count_beyond od_first_front an_first_front od_front_behind an_front_behind od_choices an_choices od_count_kept an_count_kept od_best_from an_best_from od_best_row an_best_row od_greatest_first an_greatest_first od_put_fire_back an_put_fire_back od_is_place an_is_place od_is_under_way an_is_under_way od_catches an_catches od_gone_on an_gone_on od_counted an_counted od_begin an_begin od_join an_join od_drop an_drop od_fire an_fire od_each an_each od_save an_save od_turn an_turn od_again an_again od_burns an_burns od_saved an_saved od_safe an_safe od_state an_state od_ways_now an_ways_now od_are_in_range an_are_in_range od_at_beginning an_at_beginning od_most_kept an_most_kept od_most_by_origin an_most_by_origin od_best an_best od_greedy an_greedy od_run an_run od_size an_size od_deep an_deep od_level an_level od_kept an_kept od_worst an_worst od_from_all an_from_all od_mores an_mores od_end_of_call an_end_of_call od_answer_of an_answer_of od_answers an_answers od_Ways_init an_Ways_init od_Session_init an_Session_init : Option Addr}
    {sl_neighbours sl_ways_to sl_further sl_count_beyond sl_first_front sl_front_behind sl_choices sl_count_kept sl_best_from sl_best_row sl_greatest_first sl_put_fire_back sl_is_place sl_is_under_way sl_catches sl_gone_on sl_counted sl_begin sl_join sl_drop sl_fire sl_each sl_save sl_turn sl_again sl_burns sl_saved sl_safe sl_state sl_ways_now sl_are_in_range sl_at_beginning sl_most_kept sl_most_by_origin sl_best sl_greedy sl_run sl_size sl_deep sl_level sl_kept sl_worst sl_from_all sl_mores sl_end_of_call sl_answer_of sl_answers sl_Ways_init sl_Session_init : Array (Option Value)}
    {t_NO_SUCH_PLACE t_ONLY_ONE t_UNDER_WAY t_ALREADY_SO t_OUT_OF_RANGE t_TOO_MANY t_IT_BURNS t_MOST_PLACES t_PLAIN_CALLS_0 t_PLAIN_CALLS_1 t_PLAIN_CALLS_2 t_PLAIN_CALLS_3 t_PLAIN_CALLS_4 t_PLAIN_CALLS_5 t_PLAIN_CALLS_6 t_PLAIN_CALLS_7 t_NUMBER_CALLS_0 t_NUMBER_CALLS_1 t_NUMBER_CALLS_2 t_NUMBER_CALLS_3 t_PLAIN_QUESTIONS_0 t_PLAIN_QUESTIONS_1 t_PLAIN_QUESTIONS_2 t_PLAIN_QUESTIONS_3 t_PLAIN_QUESTIONS_4 t_NUMBER_QUESTIONS_0 t_NUMBER_QUESTIONS_1 t_NUMBER_QUESTIONS_2 t_ROW_QUESTIONS_0 t_ROW_QUESTIONS_1 t_NOT_BEGUN t_BEGIN : Tok}
    {m_PLAIN_CALLS m_NUMBER_CALLS m_PLAIN_QUESTIONS m_NUMBER_QUESTIONS m_ROW_QUESTIONS : Nat}
    (g_Ways : PySem.W.nsIn K mainGlobals "Ways" = some (some (.ref C_Ways)))
    (g_Session : PySem.W.nsIn K mainGlobals "Session" = some (some (.ref C_Session)))
    (in_Ways_init : PySem.W.findIn K (.ref C_Ways) "__init__" = some (some (.ref i_Ways_init)))
    (in_Session_init : PySem.W.findIn K (.ref C_Session) "__init__" = some (some (.ref i_Session_init)))
    (n_neighbours : PySem.W.nsIn K mainGlobals "neighbours" = some (some (.ref f_neighbours)))
    (l_neighbours : K.lookup f_neighbours = some ⟨oc_neighbours, od_neighbours, .func (PySem.W.fnOf "neighbours" "neighbours" (C8.fnArgs s_neighbours) (C8.fnBody s_neighbours) (C8.fnScope s_neighbours) .none kV_neighbours dc_neighbours pm_neighbours an_neighbours cd_neighbours ct_neighbours), sl_neighbours⟩)
    (c_neighbours : PySem.W.codeIn K cd_neighbours "neighbours" = true)
    (k_neighbours : PySem.W.keepIn K (.ref f_neighbours) = true)
    (n_ways_to : PySem.W.nsIn K mainGlobals "ways_to" = some (some (.ref f_ways_to)))
    (l_ways_to : K.lookup f_ways_to = some ⟨oc_ways_to, od_ways_to, .func (PySem.W.fnOf "ways_to" "ways_to" (C8.fnArgs s_ways_to) (C8.fnBody s_ways_to) (C8.fnScope s_ways_to) .none kV_ways_to dc_ways_to pm_ways_to an_ways_to cd_ways_to ct_ways_to), sl_ways_to⟩)
    (c_ways_to : PySem.W.codeIn K cd_ways_to "ways_to" = true)
    (k_ways_to : PySem.W.keepIn K (.ref f_ways_to) = true)
    (n_further : PySem.W.nsIn K mainGlobals "further" = some (some (.ref f_further)))
    (l_further : K.lookup f_further = some ⟨oc_further, od_further, .func (PySem.W.fnOf "further" "further" (C8.fnArgs s_further) (C8.fnBody s_further) (C8.fnScope s_further) .none kV_further dc_further pm_further an_further cd_further ct_further), sl_further⟩)
    (c_further : PySem.W.codeIn K cd_further "further" = true)
    (k_further : PySem.W.keepIn K (.ref f_further) = true)
    (n_count_beyond : PySem.W.nsIn K mainGlobals "count_beyond" = some (some (.ref f_count_beyond)))
    (l_count_beyond : K.lookup f_count_beyond = some ⟨oc_count_beyond, od_count_beyond, .func (PySem.W.fnOf "count_beyond" "count_beyond" (C8.fnArgs s_count_beyond) (C8.fnBody s_count_beyond) (C8.fnScope s_count_beyond) .none kV_count_beyond dc_count_beyond pm_count_beyond an_count_beyond cd_count_beyond ct_count_beyond), sl_count_beyond⟩)
    (c_count_beyond : PySem.W.codeIn K cd_count_beyond "count_beyond" = true)
    (k_count_beyond : PySem.W.keepIn K (.ref f_count_beyond) = true)
    (n_first_front : PySem.W.nsIn K mainGlobals "first_front" = some (some (.ref f_first_front)))
    (l_first_front : K.lookup f_first_front = some ⟨oc_first_front, od_first_front, .func (PySem.W.fnOf "first_front" "first_front" (C8.fnArgs s_first_front) (C8.fnBody s_first_front) (C8.fnScope s_first_front) .none kV_first_front dc_first_front pm_first_front an_first_front cd_first_front ct_first_front), sl_first_front⟩)
    (c_first_front : PySem.W.codeIn K cd_first_front "first_front" = true)
    (k_first_front : PySem.W.keepIn K (.ref f_first_front) = true)
    (n_front_behind : PySem.W.nsIn K mainGlobals "front_behind" = some (some (.ref f_front_behind)))
    (l_front_behind : K.lookup f_front_behind = some ⟨oc_front_behind, od_front_behind, .func (PySem.W.fnOf "front_behind" "front_behind" (C8.fnArgs s_front_behind) (C8.fnBody s_front_behind) (C8.fnScope s_front_behind) .none kV_front_behind dc_front_behind pm_front_behind an_front_behind cd_front_behind ct_front_behind), sl_front_behind⟩)
    (c_front_behind : PySem.W.codeIn K cd_front_behind "front_behind" = true)
    (k_front_behind : PySem.W.keepIn K (.ref f_front_behind) = true)
    (n_choices : PySem.W.nsIn K mainGlobals "choices" = some (some (.ref f_choices)))
    (l_choices : K.lookup f_choices = some ⟨oc_choices, od_choices, .func (PySem.W.fnOf "choices" "choices" (C8.fnArgs s_choices) (C8.fnBody s_choices) (C8.fnScope s_choices) .none kV_choices dc_choices pm_choices an_choices cd_choices ct_choices), sl_choices⟩)
    (c_choices : PySem.W.codeIn K cd_choices "choices" = true)
    (k_choices : PySem.W.keepIn K (.ref f_choices) = true)
    (n_count_kept : PySem.W.nsIn K mainGlobals "count_kept" = some (some (.ref f_count_kept)))
    (l_count_kept : K.lookup f_count_kept = some ⟨oc_count_kept, od_count_kept, .func (PySem.W.fnOf "count_kept" "count_kept" (C8.fnArgs s_count_kept) (C8.fnBody s_count_kept) (C8.fnScope s_count_kept) .none kV_count_kept dc_count_kept pm_count_kept an_count_kept cd_count_kept ct_count_kept), sl_count_kept⟩)
    (c_count_kept : PySem.W.codeIn K cd_count_kept "count_kept" = true)
    (k_count_kept : PySem.W.keepIn K (.ref f_count_kept) = true)
    (n_best_from : PySem.W.nsIn K mainGlobals "best_from" = some (some (.ref f_best_from)))
    (l_best_from : K.lookup f_best_from = some ⟨oc_best_from, od_best_from, .func (PySem.W.fnOf "best_from" "best_from" (C8.fnArgs s_best_from) (C8.fnBody s_best_from) (C8.fnScope s_best_from) .none kV_best_from dc_best_from pm_best_from an_best_from cd_best_from ct_best_from), sl_best_from⟩)
    (c_best_from : PySem.W.codeIn K cd_best_from "best_from" = true)
    (k_best_from : PySem.W.keepIn K (.ref f_best_from) = true)
    (n_best_row : PySem.W.nsIn K mainGlobals "best_row" = some (some (.ref f_best_row)))
    (l_best_row : K.lookup f_best_row = some ⟨oc_best_row, od_best_row, .func (PySem.W.fnOf "best_row" "best_row" (C8.fnArgs s_best_row) (C8.fnBody s_best_row) (C8.fnScope s_best_row) .none kV_best_row dc_best_row pm_best_row an_best_row cd_best_row ct_best_row), sl_best_row⟩)
    (c_best_row : PySem.W.codeIn K cd_best_row "best_row" = true)
    (k_best_row : PySem.W.keepIn K (.ref f_best_row) = true)
    (ht_tab : PySem.W.tabIn K "greatest_first" = some (cod, tab))
    (np_tab : K.lookup tab = none)
    (n_greatest_first : PySem.W.nsIn K mainGlobals "greatest_first" = some (some (.ref f_greatest_first)))
    (l_greatest_first : K.lookup f_greatest_first = some ⟨oc_greatest_first, od_greatest_first, .func (PySem.W.fnOf "greatest_first" "greatest_first" (C8.fnArgs s_greatest_first) (C8.fnBody s_greatest_first) (C8.fnScope s_greatest_first) .none kV_greatest_first dc_greatest_first pm_greatest_first an_greatest_first (.ref cod) ct_greatest_first), sl_greatest_first⟩)
    (c_greatest_first : PySem.W.codeIn K (.ref cod) "greatest_first" = true)
    (k_greatest_first : PySem.W.keepIn K (.ref f_greatest_first) = true)
    (n_put_fire_back : PySem.W.nsIn K mainGlobals "put_fire_back" = some (some (.ref f_put_fire_back)))
    (l_put_fire_back : K.lookup f_put_fire_back = some ⟨oc_put_fire_back, od_put_fire_back, .func (PySem.W.fnOf "put_fire_back" "put_fire_back" (C8.fnArgs s_put_fire_back) (C8.fnBody s_put_fire_back) (C8.fnScope s_put_fire_back) .none kV_put_fire_back dc_put_fire_back pm_put_fire_back an_put_fire_back cd_put_fire_back ct_put_fire_back), sl_put_fire_back⟩)
    (c_put_fire_back : PySem.W.codeIn K cd_put_fire_back "put_fire_back" = true)
    (k_put_fire_back : PySem.W.keepIn K (.ref f_put_fire_back) = true)
    (n_is_place : PySem.W.nsIn K mainGlobals "is_place" = some (some (.ref f_is_place)))
    (l_is_place : K.lookup f_is_place = some ⟨oc_is_place, od_is_place, .func (PySem.W.fnOf "is_place" "is_place" (C8.fnArgs s_is_place) (C8.fnBody s_is_place) (C8.fnScope s_is_place) .none kV_is_place dc_is_place pm_is_place an_is_place cd_is_place ct_is_place), sl_is_place⟩)
    (c_is_place : PySem.W.codeIn K cd_is_place "is_place" = true)
    (k_is_place : PySem.W.keepIn K (.ref f_is_place) = true)
    (n_is_under_way : PySem.W.nsIn K mainGlobals "is_under_way" = some (some (.ref f_is_under_way)))
    (l_is_under_way : K.lookup f_is_under_way = some ⟨oc_is_under_way, od_is_under_way, .func (PySem.W.fnOf "is_under_way" "is_under_way" (C8.fnArgs s_is_under_way) (C8.fnBody s_is_under_way) (C8.fnScope s_is_under_way) .none kV_is_under_way dc_is_under_way pm_is_under_way an_is_under_way cd_is_under_way ct_is_under_way), sl_is_under_way⟩)
    (c_is_under_way : PySem.W.codeIn K cd_is_under_way "is_under_way" = true)
    (k_is_under_way : PySem.W.keepIn K (.ref f_is_under_way) = true)
    (n_catches : PySem.W.nsIn K mainGlobals "catches" = some (some (.ref f_catches)))
    (l_catches : K.lookup f_catches = some ⟨oc_catches, od_catches, .func (PySem.W.fnOf "catches" "catches" (C8.fnArgs s_catches) (C8.fnBody s_catches) (C8.fnScope s_catches) .none kV_catches dc_catches pm_catches an_catches cd_catches ct_catches), sl_catches⟩)
    (c_catches : PySem.W.codeIn K cd_catches "catches" = true)
    (k_catches : PySem.W.keepIn K (.ref f_catches) = true)
    (n_gone_on : PySem.W.nsIn K mainGlobals "gone_on" = some (some (.ref f_gone_on)))
    (l_gone_on : K.lookup f_gone_on = some ⟨oc_gone_on, od_gone_on, .func (PySem.W.fnOf "gone_on" "gone_on" (C8.fnArgs s_gone_on) (C8.fnBody s_gone_on) (C8.fnScope s_gone_on) .none kV_gone_on dc_gone_on pm_gone_on an_gone_on cd_gone_on ct_gone_on), sl_gone_on⟩)
    (c_gone_on : PySem.W.codeIn K cd_gone_on "gone_on" = true)
    (k_gone_on : PySem.W.keepIn K (.ref f_gone_on) = true)
    (n_counted : PySem.W.nsIn K mainGlobals "counted" = some (some (.ref f_counted)))
    (l_counted : K.lookup f_counted = some ⟨oc_counted, od_counted, .func (PySem.W.fnOf "counted" "counted" (C8.fnArgs s_counted) (C8.fnBody s_counted) (C8.fnScope s_counted) .none kV_counted dc_counted pm_counted an_counted cd_counted ct_counted), sl_counted⟩)
    (c_counted : PySem.W.codeIn K cd_counted "counted" = true)
    (k_counted : PySem.W.keepIn K (.ref f_counted) = true)
    (n_begin : PySem.W.nsIn K mainGlobals "begin" = some (some (.ref f_begin)))
    (l_begin : K.lookup f_begin = some ⟨oc_begin, od_begin, .func (PySem.W.fnOf "begin" "begin" (C8.fnArgs s_begin) (C8.fnBody s_begin) (C8.fnScope s_begin) .none kV_begin dc_begin pm_begin an_begin cd_begin ct_begin), sl_begin⟩)
    (c_begin : PySem.W.codeIn K cd_begin "begin" = true)
    (k_begin : PySem.W.keepIn K (.ref f_begin) = true)
    (n_join : PySem.W.nsIn K mainGlobals "join" = some (some (.ref f_join)))
    (l_join : K.lookup f_join = some ⟨oc_join, od_join, .func (PySem.W.fnOf "join" "join" (C8.fnArgs s_join) (C8.fnBody s_join) (C8.fnScope s_join) .none kV_join dc_join pm_join an_join cd_join ct_join), sl_join⟩)
    (c_join : PySem.W.codeIn K cd_join "join" = true)
    (k_join : PySem.W.keepIn K (.ref f_join) = true)
    (n_drop : PySem.W.nsIn K mainGlobals "drop" = some (some (.ref f_drop)))
    (l_drop : K.lookup f_drop = some ⟨oc_drop, od_drop, .func (PySem.W.fnOf "drop" "drop" (C8.fnArgs s_drop) (C8.fnBody s_drop) (C8.fnScope s_drop) .none kV_drop dc_drop pm_drop an_drop cd_drop ct_drop), sl_drop⟩)
    (c_drop : PySem.W.codeIn K cd_drop "drop" = true)
    (k_drop : PySem.W.keepIn K (.ref f_drop) = true)
    (n_fire : PySem.W.nsIn K mainGlobals "fire" = some (some (.ref f_fire)))
    (l_fire : K.lookup f_fire = some ⟨oc_fire, od_fire, .func (PySem.W.fnOf "fire" "fire" (C8.fnArgs s_fire) (C8.fnBody s_fire) (C8.fnScope s_fire) .none kV_fire dc_fire pm_fire an_fire cd_fire ct_fire), sl_fire⟩)
    (c_fire : PySem.W.codeIn K cd_fire "fire" = true)
    (k_fire : PySem.W.keepIn K (.ref f_fire) = true)
    (n_each : PySem.W.nsIn K mainGlobals "each" = some (some (.ref f_each)))
    (l_each : K.lookup f_each = some ⟨oc_each, od_each, .func (PySem.W.fnOf "each" "each" (C8.fnArgs s_each) (C8.fnBody s_each) (C8.fnScope s_each) .none kV_each dc_each pm_each an_each cd_each ct_each), sl_each⟩)
    (c_each : PySem.W.codeIn K cd_each "each" = true)
    (k_each : PySem.W.keepIn K (.ref f_each) = true)
    (n_save : PySem.W.nsIn K mainGlobals "save" = some (some (.ref f_save)))
    (l_save : K.lookup f_save = some ⟨oc_save, od_save, .func (PySem.W.fnOf "save" "save" (C8.fnArgs s_save) (C8.fnBody s_save) (C8.fnScope s_save) .none kV_save dc_save pm_save an_save cd_save ct_save), sl_save⟩)
    (c_save : PySem.W.codeIn K cd_save "save" = true)
    (k_save : PySem.W.keepIn K (.ref f_save) = true)
    (n_turn : PySem.W.nsIn K mainGlobals "turn" = some (some (.ref f_turn)))
    (l_turn : K.lookup f_turn = some ⟨oc_turn, od_turn, .func (PySem.W.fnOf "turn" "turn" (C8.fnArgs s_turn) (C8.fnBody s_turn) (C8.fnScope s_turn) .none kV_turn dc_turn pm_turn an_turn cd_turn ct_turn), sl_turn⟩)
    (c_turn : PySem.W.codeIn K cd_turn "turn" = true)
    (k_turn : PySem.W.keepIn K (.ref f_turn) = true)
    (n_again : PySem.W.nsIn K mainGlobals "again" = some (some (.ref f_again)))
    (l_again : K.lookup f_again = some ⟨oc_again, od_again, .func (PySem.W.fnOf "again" "again" (C8.fnArgs s_again) (C8.fnBody s_again) (C8.fnScope s_again) .none kV_again dc_again pm_again an_again cd_again ct_again), sl_again⟩)
    (c_again : PySem.W.codeIn K cd_again "again" = true)
    (k_again : PySem.W.keepIn K (.ref f_again) = true)
    (n_burns : PySem.W.nsIn K mainGlobals "burns" = some (some (.ref f_burns)))
    (l_burns : K.lookup f_burns = some ⟨oc_burns, od_burns, .func (PySem.W.fnOf "burns" "burns" (C8.fnArgs s_burns) (C8.fnBody s_burns) (C8.fnScope s_burns) .none kV_burns dc_burns pm_burns an_burns cd_burns ct_burns), sl_burns⟩)
    (c_burns : PySem.W.codeIn K cd_burns "burns" = true)
    (k_burns : PySem.W.keepIn K (.ref f_burns) = true)
    (n_saved : PySem.W.nsIn K mainGlobals "saved" = some (some (.ref f_saved)))
    (l_saved : K.lookup f_saved = some ⟨oc_saved, od_saved, .func (PySem.W.fnOf "saved" "saved" (C8.fnArgs s_saved) (C8.fnBody s_saved) (C8.fnScope s_saved) .none kV_saved dc_saved pm_saved an_saved cd_saved ct_saved), sl_saved⟩)
    (c_saved : PySem.W.codeIn K cd_saved "saved" = true)
    (k_saved : PySem.W.keepIn K (.ref f_saved) = true)
    (n_safe : PySem.W.nsIn K mainGlobals "safe" = some (some (.ref f_safe)))
    (l_safe : K.lookup f_safe = some ⟨oc_safe, od_safe, .func (PySem.W.fnOf "safe" "safe" (C8.fnArgs s_safe) (C8.fnBody s_safe) (C8.fnScope s_safe) .none kV_safe dc_safe pm_safe an_safe cd_safe ct_safe), sl_safe⟩)
    (c_safe : PySem.W.codeIn K cd_safe "safe" = true)
    (k_safe : PySem.W.keepIn K (.ref f_safe) = true)
    (n_state : PySem.W.nsIn K mainGlobals "state" = some (some (.ref f_state)))
    (l_state : K.lookup f_state = some ⟨oc_state, od_state, .func (PySem.W.fnOf "state" "state" (C8.fnArgs s_state) (C8.fnBody s_state) (C8.fnScope s_state) .none kV_state dc_state pm_state an_state cd_state ct_state), sl_state⟩)
    (c_state : PySem.W.codeIn K cd_state "state" = true)
    (k_state : PySem.W.keepIn K (.ref f_state) = true)
    (n_ways_now : PySem.W.nsIn K mainGlobals "ways_now" = some (some (.ref f_ways_now)))
    (l_ways_now : K.lookup f_ways_now = some ⟨oc_ways_now, od_ways_now, .func (PySem.W.fnOf "ways_now" "ways_now" (C8.fnArgs s_ways_now) (C8.fnBody s_ways_now) (C8.fnScope s_ways_now) .none kV_ways_now dc_ways_now pm_ways_now an_ways_now cd_ways_now ct_ways_now), sl_ways_now⟩)
    (c_ways_now : PySem.W.codeIn K cd_ways_now "ways_now" = true)
    (k_ways_now : PySem.W.keepIn K (.ref f_ways_now) = true)
    (n_are_in_range : PySem.W.nsIn K mainGlobals "are_in_range" = some (some (.ref f_are_in_range)))
    (l_are_in_range : K.lookup f_are_in_range = some ⟨oc_are_in_range, od_are_in_range, .func (PySem.W.fnOf "are_in_range" "are_in_range" (C8.fnArgs s_are_in_range) (C8.fnBody s_are_in_range) (C8.fnScope s_are_in_range) .none kV_are_in_range dc_are_in_range pm_are_in_range an_are_in_range cd_are_in_range ct_are_in_range), sl_are_in_range⟩)
    (c_are_in_range : PySem.W.codeIn K cd_are_in_range "are_in_range" = true)
    (k_are_in_range : PySem.W.keepIn K (.ref f_are_in_range) = true)
    (n_at_beginning : PySem.W.nsIn K mainGlobals "at_beginning" = some (some (.ref f_at_beginning)))
    (l_at_beginning : K.lookup f_at_beginning = some ⟨oc_at_beginning, od_at_beginning, .func (PySem.W.fnOf "at_beginning" "at_beginning" (C8.fnArgs s_at_beginning) (C8.fnBody s_at_beginning) (C8.fnScope s_at_beginning) .none kV_at_beginning dc_at_beginning pm_at_beginning an_at_beginning cd_at_beginning ct_at_beginning), sl_at_beginning⟩)
    (c_at_beginning : PySem.W.codeIn K cd_at_beginning "at_beginning" = true)
    (k_at_beginning : PySem.W.keepIn K (.ref f_at_beginning) = true)
    (n_most_kept : PySem.W.nsIn K mainGlobals "most_kept" = some (some (.ref f_most_kept)))
    (l_most_kept : K.lookup f_most_kept = some ⟨oc_most_kept, od_most_kept, .func (PySem.W.fnOf "most_kept" "most_kept" (C8.fnArgs s_most_kept) (C8.fnBody s_most_kept) (C8.fnScope s_most_kept) .none kV_most_kept dc_most_kept pm_most_kept an_most_kept cd_most_kept ct_most_kept), sl_most_kept⟩)
    (c_most_kept : PySem.W.codeIn K cd_most_kept "most_kept" = true)
    (k_most_kept : PySem.W.keepIn K (.ref f_most_kept) = true)
    (n_most_by_origin : PySem.W.nsIn K mainGlobals "most_by_origin" = some (some (.ref f_most_by_origin)))
    (l_most_by_origin : K.lookup f_most_by_origin = some ⟨oc_most_by_origin, od_most_by_origin, .func (PySem.W.fnOf "most_by_origin" "most_by_origin" (C8.fnArgs s_most_by_origin) (C8.fnBody s_most_by_origin) (C8.fnScope s_most_by_origin) .none kV_most_by_origin dc_most_by_origin pm_most_by_origin an_most_by_origin cd_most_by_origin ct_most_by_origin), sl_most_by_origin⟩)
    (c_most_by_origin : PySem.W.codeIn K cd_most_by_origin "most_by_origin" = true)
    (k_most_by_origin : PySem.W.keepIn K (.ref f_most_by_origin) = true)
    (n_best : PySem.W.nsIn K mainGlobals "best" = some (some (.ref f_best)))
    (l_best : K.lookup f_best = some ⟨oc_best, od_best, .func (PySem.W.fnOf "best" "best" (C8.fnArgs s_best) (C8.fnBody s_best) (C8.fnScope s_best) .none kV_best dc_best pm_best an_best cd_best ct_best), sl_best⟩)
    (c_best : PySem.W.codeIn K cd_best "best" = true)
    (k_best : PySem.W.keepIn K (.ref f_best) = true)
    (n_greedy : PySem.W.nsIn K mainGlobals "greedy" = some (some (.ref f_greedy)))
    (l_greedy : K.lookup f_greedy = some ⟨oc_greedy, od_greedy, .func (PySem.W.fnOf "greedy" "greedy" (C8.fnArgs s_greedy) (C8.fnBody s_greedy) (C8.fnScope s_greedy) .none kV_greedy dc_greedy pm_greedy an_greedy cd_greedy ct_greedy), sl_greedy⟩)
    (c_greedy : PySem.W.codeIn K cd_greedy "greedy" = true)
    (k_greedy : PySem.W.keepIn K (.ref f_greedy) = true)
    (n_run : PySem.W.nsIn K mainGlobals "run" = some (some (.ref f_run)))
    (l_run : K.lookup f_run = some ⟨oc_run, od_run, .func (PySem.W.fnOf "run" "run" (C8.fnArgs s_run) (C8.fnBody s_run) (C8.fnScope s_run) .none kV_run dc_run pm_run an_run cd_run ct_run), sl_run⟩)
    (c_run : PySem.W.codeIn K cd_run "run" = true)
    (k_run : PySem.W.keepIn K (.ref f_run) = true)
    (n_size : PySem.W.nsIn K mainGlobals "size" = some (some (.ref f_size)))
    (l_size : K.lookup f_size = some ⟨oc_size, od_size, .func (PySem.W.fnOf "size" "size" (C8.fnArgs s_size) (C8.fnBody s_size) (C8.fnScope s_size) .none kV_size dc_size pm_size an_size cd_size ct_size), sl_size⟩)
    (c_size : PySem.W.codeIn K cd_size "size" = true)
    (k_size : PySem.W.keepIn K (.ref f_size) = true)
    (n_deep : PySem.W.nsIn K mainGlobals "deep" = some (some (.ref f_deep)))
    (l_deep : K.lookup f_deep = some ⟨oc_deep, od_deep, .func (PySem.W.fnOf "deep" "deep" (C8.fnArgs s_deep) (C8.fnBody s_deep) (C8.fnScope s_deep) .none kV_deep dc_deep pm_deep an_deep cd_deep ct_deep), sl_deep⟩)
    (c_deep : PySem.W.codeIn K cd_deep "deep" = true)
    (k_deep : PySem.W.keepIn K (.ref f_deep) = true)
    (n_level : PySem.W.nsIn K mainGlobals "level" = some (some (.ref f_level)))
    (l_level : K.lookup f_level = some ⟨oc_level, od_level, .func (PySem.W.fnOf "level" "level" (C8.fnArgs s_level) (C8.fnBody s_level) (C8.fnScope s_level) .none kV_level dc_level pm_level an_level cd_level ct_level), sl_level⟩)
    (c_level : PySem.W.codeIn K cd_level "level" = true)
    (k_level : PySem.W.keepIn K (.ref f_level) = true)
    (n_kept : PySem.W.nsIn K mainGlobals "kept" = some (some (.ref f_kept)))
    (l_kept : K.lookup f_kept = some ⟨oc_kept, od_kept, .func (PySem.W.fnOf "kept" "kept" (C8.fnArgs s_kept) (C8.fnBody s_kept) (C8.fnScope s_kept) .none kV_kept dc_kept pm_kept an_kept cd_kept ct_kept), sl_kept⟩)
    (c_kept : PySem.W.codeIn K cd_kept "kept" = true)
    (k_kept : PySem.W.keepIn K (.ref f_kept) = true)
    (n_worst : PySem.W.nsIn K mainGlobals "worst" = some (some (.ref f_worst)))
    (l_worst : K.lookup f_worst = some ⟨oc_worst, od_worst, .func (PySem.W.fnOf "worst" "worst" (C8.fnArgs s_worst) (C8.fnBody s_worst) (C8.fnScope s_worst) .none kV_worst dc_worst pm_worst an_worst cd_worst ct_worst), sl_worst⟩)
    (c_worst : PySem.W.codeIn K cd_worst "worst" = true)
    (k_worst : PySem.W.keepIn K (.ref f_worst) = true)
    (n_from_all : PySem.W.nsIn K mainGlobals "from_all" = some (some (.ref f_from_all)))
    (l_from_all : K.lookup f_from_all = some ⟨oc_from_all, od_from_all, .func (PySem.W.fnOf "from_all" "from_all" (C8.fnArgs s_from_all) (C8.fnBody s_from_all) (C8.fnScope s_from_all) .none kV_from_all dc_from_all pm_from_all an_from_all cd_from_all ct_from_all), sl_from_all⟩)
    (c_from_all : PySem.W.codeIn K cd_from_all "from_all" = true)
    (k_from_all : PySem.W.keepIn K (.ref f_from_all) = true)
    (n_mores : PySem.W.nsIn K mainGlobals "mores" = some (some (.ref f_mores)))
    (l_mores : K.lookup f_mores = some ⟨oc_mores, od_mores, .func (PySem.W.fnOf "mores" "mores" (C8.fnArgs s_mores) (C8.fnBody s_mores) (C8.fnScope s_mores) .none kV_mores dc_mores pm_mores an_mores cd_mores ct_mores), sl_mores⟩)
    (c_mores : PySem.W.codeIn K cd_mores "mores" = true)
    (k_mores : PySem.W.keepIn K (.ref f_mores) = true)
    (n_end_of_call : PySem.W.nsIn K mainGlobals "end_of_call" = some (some (.ref f_end_of_call)))
    (l_end_of_call : K.lookup f_end_of_call = some ⟨oc_end_of_call, od_end_of_call, .func (PySem.W.fnOf "end_of_call" "end_of_call" (C8.fnArgs s_end_of_call) (C8.fnBody s_end_of_call) (C8.fnScope s_end_of_call) .none kV_end_of_call dc_end_of_call pm_end_of_call an_end_of_call cd_end_of_call ct_end_of_call), sl_end_of_call⟩)
    (c_end_of_call : PySem.W.codeIn K cd_end_of_call "end_of_call" = true)
    (k_end_of_call : PySem.W.keepIn K (.ref f_end_of_call) = true)
    (n_answer_of : PySem.W.nsIn K mainGlobals "answer_of" = some (some (.ref f_answer_of)))
    (l_answer_of : K.lookup f_answer_of = some ⟨oc_answer_of, od_answer_of, .func (PySem.W.fnOf "answer_of" "answer_of" (C8.fnArgs s_answer_of) (C8.fnBody s_answer_of) (C8.fnScope s_answer_of) .none kV_answer_of dc_answer_of pm_answer_of an_answer_of cd_answer_of ct_answer_of), sl_answer_of⟩)
    (c_answer_of : PySem.W.codeIn K cd_answer_of "answer_of" = true)
    (k_answer_of : PySem.W.keepIn K (.ref f_answer_of) = true)
    (n_answers : PySem.W.nsIn K mainGlobals "answers" = some (some (.ref f_answers)))
    (l_answers : K.lookup f_answers = some ⟨oc_answers, od_answers, .func (PySem.W.fnOf "answers" "answers" (C8.fnArgs s_answers) (C8.fnBody s_answers) (C8.fnScope s_answers) .none kV_answers dc_answers pm_answers an_answers cd_answers ct_answers), sl_answers⟩)
    (c_answers : PySem.W.codeIn K cd_answers "answers" = true)
    (k_answers : PySem.W.keepIn K (.ref f_answers) = true)
    (fn_Ways_init : PySem.W.isFn K (.ref i_Ways_init) = true)
    (l_Ways_init : K.lookup i_Ways_init = some ⟨oc_Ways_init, od_Ways_init, .func (PySem.W.fnOf "__init__" "Ways.__init__" (C8.fnArgs s_Ways_init) (C8.fnBody s_Ways_init) (C8.fnScope s_Ways_init) .none kV_Ways_init dc_Ways_init pm_Ways_init an_Ways_init cd_Ways_init ct_Ways_init), sl_Ways_init⟩)
    (c_Ways_init : PySem.W.codeIn K cd_Ways_init "Ways.__init__" = true)
    (fn_Session_init : PySem.W.isFn K (.ref i_Session_init) = true)
    (l_Session_init : K.lookup i_Session_init = some ⟨oc_Session_init, od_Session_init, .func (PySem.W.fnOf "__init__" "Session.__init__" (C8.fnArgs s_Session_init) (C8.fnBody s_Session_init) (C8.fnScope s_Session_init) .none kV_Session_init dc_Session_init pm_Session_init an_Session_init cd_Session_init ct_Session_init), sl_Session_init⟩)
    (c_Session_init : PySem.W.codeIn K cd_Session_init "Session.__init__" = true)
    (pg_Ways : PySem.W.plainGet K C_Ways Str.empty = true)
    (hd_Ways : PySem.W.hasDictIn K C_Ways = true)
    (po_Ways : PySem.W.plainOver K C_Ways = true)
    (mk_Ways : PySem.W.makesIn K C_Ways = true)
    (kc_Ways : PySem.W.keepIn K (.ref C_Ways) = true)
    (sa_Ways : PySem.W.findIn K (.ref C_Ways) "__setattr__" = some (some (.builtin "object.__setattr__")))
    (na_Ways_toward : PySem.W.findIn K (.ref C_Ways) "toward" = some none)
    (na_Ways_depths : PySem.W.findIn K (.ref C_Ways) "depths" = some none)
    (na_Ways_sizes : PySem.W.findIn K (.ref C_Ways) "sizes" = some none)
    (na_Ways_order : PySem.W.findIn K (.ref C_Ways) "order" = some none)
    (pg_Session : PySem.W.plainGet K C_Session Str.empty = true)
    (hd_Session : PySem.W.hasDictIn K C_Session = true)
    (po_Session : PySem.W.plainOver K C_Session = true)
    (mk_Session : PySem.W.makesIn K C_Session = true)
    (kc_Session : PySem.W.keepIn K (.ref C_Session) = true)
    (sa_Session : PySem.W.findIn K (.ref C_Session) "__setattr__" = some (some (.builtin "object.__setattr__")))
    (na_Session_joined : PySem.W.findIn K (.ref C_Session) "joined" = some none)
    (na_Session_origin : PySem.W.findIn K (.ref C_Session) "origin" = some none)
    (na_Session_each : PySem.W.findIn K (.ref C_Session) "each" = some none)
    (na_Session_used : PySem.W.findIn K (.ref C_Session) "used" = some none)
    (na_Session_burning : PySem.W.findIn K (.ref C_Session) "burning" = some none)
    (na_Session_saved : PySem.W.findIn K (.ref C_Session) "saved" = some none)
    (b_all : PySem.W.nsIn K mainGlobals "all" = some none)
    (b_any : PySem.W.nsIn K mainGlobals "any" = some none)
    (b_len : PySem.W.nsIn K mainGlobals "len" = some none)
    (b_list : PySem.W.nsIn K mainGlobals "list" = some none)
    (b_min : PySem.W.nsIn K mainGlobals "min" = some none)
    (b_range : PySem.W.nsIn K mainGlobals "range" = some none)
    (b_reversed : PySem.W.nsIn K mainGlobals "reversed" = some none)
    (b_sorted : PySem.W.nsIn K mainGlobals "sorted" = some none)
    (b_sum : PySem.W.nsIn K mainGlobals "sum" = some none)
    (v_NO_SUCH_PLACE : PySem.W.nsIn K mainGlobals "NO_SUCH_PLACE" = some (some (.int (-2) t_NO_SUCH_PLACE)))
    (v_ONLY_ONE : PySem.W.nsIn K mainGlobals "ONLY_ONE" = some (some (.int (-6) t_ONLY_ONE)))
    (v_UNDER_WAY : PySem.W.nsIn K mainGlobals "UNDER_WAY" = some (some (.int (-16) t_UNDER_WAY)))
    (v_ALREADY_SO : PySem.W.nsIn K mainGlobals "ALREADY_SO" = some (some (.int (-17) t_ALREADY_SO)))
    (v_OUT_OF_RANGE : PySem.W.nsIn K mainGlobals "OUT_OF_RANGE" = some (some (.int (-22) t_OUT_OF_RANGE)))
    (v_TOO_MANY : PySem.W.nsIn K mainGlobals "TOO_MANY" = some (some (.int (-28) t_TOO_MANY)))
    (v_IT_BURNS : PySem.W.nsIn K mainGlobals "IT_BURNS" = some (some (.int (-33) t_IT_BURNS)))
    (v_MOST_PLACES : PySem.W.nsIn K mainGlobals "MOST_PLACES" = some (some (.int (12) t_MOST_PLACES)))
    (v_PLAIN_CALLS : PySem.W.nsIn K mainGlobals "PLAIN_CALLS" = some (some (.ref a_PLAIN_CALLS)))
    (l_PLAIN_CALLS : K.lookup a_PLAIN_CALLS = some ⟨.type "dict", none, .dict #[⟨0, .int (0) t_PLAIN_CALLS_0, .ref f_begin⟩, ⟨2, .int (2) t_PLAIN_CALLS_1, .ref f_drop⟩, ⟨6, .int (6) t_PLAIN_CALLS_2, .ref f_turn⟩, ⟨7, .int (7) t_PLAIN_CALLS_3, .ref f_again⟩, ⟨8, .int (8) t_PLAIN_CALLS_4, .ref f_burns⟩, ⟨9, .int (9) t_PLAIN_CALLS_5, .ref f_saved⟩, ⟨10, .int (10) t_PLAIN_CALLS_6, .ref f_safe⟩, ⟨21, .int (21) t_PLAIN_CALLS_7, .ref f_state⟩] m_PLAIN_CALLS, #[]⟩)
    (y_PLAIN_CALLS : (a_PLAIN_CALLS == sysModules) = false)
    (v_NUMBER_CALLS : PySem.W.nsIn K mainGlobals "NUMBER_CALLS" = some (some (.ref a_NUMBER_CALLS)))
    (l_NUMBER_CALLS : K.lookup a_NUMBER_CALLS = some ⟨.type "dict", none, .dict #[⟨1, .int (1) t_NUMBER_CALLS_0, .ref f_join⟩, ⟨3, .int (3) t_NUMBER_CALLS_1, .ref f_fire⟩, ⟨4, .int (4) t_NUMBER_CALLS_2, .ref f_each⟩, ⟨5, .int (5) t_NUMBER_CALLS_3, .ref f_save⟩] m_NUMBER_CALLS, #[]⟩)
    (y_NUMBER_CALLS : (a_NUMBER_CALLS == sysModules) = false)
    (v_PLAIN_QUESTIONS : PySem.W.nsIn K mainGlobals "PLAIN_QUESTIONS" = some (some (.ref a_PLAIN_QUESTIONS)))
    (l_PLAIN_QUESTIONS : K.lookup a_PLAIN_QUESTIONS = some ⟨.type "dict", none, .dict #[⟨11, .int (11) t_PLAIN_QUESTIONS_0, .ref f_best⟩, ⟨12, .int (12) t_PLAIN_QUESTIONS_1, .ref f_greedy⟩, ⟨18, .int (18) t_PLAIN_QUESTIONS_2, .ref f_worst⟩, ⟨19, .int (19) t_PLAIN_QUESTIONS_3, .ref f_from_all⟩, ⟨20, .int (20) t_PLAIN_QUESTIONS_4, .ref f_mores⟩] m_PLAIN_QUESTIONS, #[]⟩)
    (y_PLAIN_QUESTIONS : (a_PLAIN_QUESTIONS == sysModules) = false)
    (v_NUMBER_QUESTIONS : PySem.W.nsIn K mainGlobals "NUMBER_QUESTIONS" = some (some (.ref a_NUMBER_QUESTIONS)))
    (l_NUMBER_QUESTIONS : K.lookup a_NUMBER_QUESTIONS = some ⟨.type "dict", none, .dict #[⟨14, .int (14) t_NUMBER_QUESTIONS_0, .ref f_size⟩, ⟨15, .int (15) t_NUMBER_QUESTIONS_1, .ref f_deep⟩, ⟨16, .int (16) t_NUMBER_QUESTIONS_2, .ref f_level⟩] m_NUMBER_QUESTIONS, #[]⟩)
    (y_NUMBER_QUESTIONS : (a_NUMBER_QUESTIONS == sysModules) = false)
    (v_ROW_QUESTIONS : PySem.W.nsIn K mainGlobals "ROW_QUESTIONS" = some (some (.ref a_ROW_QUESTIONS)))
    (l_ROW_QUESTIONS : K.lookup a_ROW_QUESTIONS = some ⟨.type "dict", none, .dict #[⟨13, .int (13) t_ROW_QUESTIONS_0, .ref f_run⟩, ⟨17, .int (17) t_ROW_QUESTIONS_1, .ref f_kept⟩] m_ROW_QUESTIONS, #[]⟩)
    (y_ROW_QUESTIONS : (a_ROW_QUESTIONS == sysModules) = false)
    (v_NOT_BEGUN : PySem.W.nsIn K mainGlobals "NOT_BEGUN" = some (some (.int (-11) t_NOT_BEGUN)))
    (v_BEGIN : PySem.W.nsIn K mainGlobals "BEGIN" = some (some (.int (0) t_BEGIN)))
    : ∃ (fd : FuncData) (c T : Addr), PySem.W.tabIn K "greatest_first" = some (c, T) ∧ K.lookup T = none ∧ (∀ (s : Shared) (us : List Value), us.length = (["calls"] : List Str).length → BindsTo s fd ⟨us, []⟩ ((["calls"] : List Str).zip us)) ∧ ∀ base : Heap, K.In base → base.Ns mainGlobals mg → LamX.TabB base mg c T → FnOk P w K mg base L2.CX0 34 fa fd ["calls"] (rowP T K) := by
  have e : f_answers = fa := by
    have q := (PySem.W.mg_of X G n_answers).symm.trans hfa
    injection q with q
    injection q
  subst e
  have T : Txt K mg (⟨C_Ways, C_Session, cod, tab, a_PLAIN_CALLS, a_NUMBER_CALLS, a_PLAIN_QUESTIONS, a_NUMBER_QUESTIONS, a_ROW_QUESTIONS, f_neighbours, f_ways_to, f_further, f_count_beyond, f_first_front, f_front_behind, f_choices, f_count_kept, f_best_from, f_best_row, f_greatest_first, f_put_fire_back, f_is_place, f_is_under_way, f_catches, f_gone_on, f_counted, f_begin, f_join, f_drop, f_fire, f_each, f_save, f_turn, f_again, f_burns, f_saved, f_safe, f_state, f_ways_now, f_are_in_range, f_at_beginning, f_most_kept, f_most_by_origin, f_best, f_greedy, f_run, f_size, f_deep, f_level, f_kept, f_worst, f_from_all, f_mores, f_end_of_call, f_answer_of, f_answers⟩ : Locs) := ⟨⟨pg_Ways, hd_Ways, po_Ways, sa_Ways⟩,
    PySem.W.mg_of X G g_Ways,
    na_Ways_toward,
    na_Ways_depths,
    na_Ways_sizes,
    na_Ways_order,
    ⟨pg_Session, hd_Session, po_Session, sa_Session⟩,
    PySem.W.mg_of X G g_Session,
    na_Session_joined,
    na_Session_origin,
    na_Session_each,
    na_Session_used,
    na_Session_burning,
    na_Session_saved,
    PySem.W.mg_none_of X G b_all,
    PySem.W.mg_none_of X G b_any,
    PySem.W.mg_none_of X G b_len,
    PySem.W.mg_none_of X G b_list,
    PySem.W.mg_none_of X G b_min,
    PySem.W.mg_none_of X G b_range,
    PySem.W.mg_none_of X G b_reversed,
    PySem.W.mg_none_of X G b_sorted,
    PySem.W.mg_none_of X G b_sum,
    ⟨_, PySem.W.mg_of X G v_NO_SUCH_PLACE, ⟨_, rfl⟩⟩,
    ⟨_, PySem.W.mg_of X G v_ONLY_ONE, ⟨_, rfl⟩⟩,
    ⟨_, PySem.W.mg_of X G v_UNDER_WAY, ⟨_, rfl⟩⟩,
    ⟨_, PySem.W.mg_of X G v_ALREADY_SO, ⟨_, rfl⟩⟩,
    ⟨_, PySem.W.mg_of X G v_OUT_OF_RANGE, ⟨_, rfl⟩⟩,
    ⟨_, PySem.W.mg_of X G v_TOO_MANY, ⟨_, rfl⟩⟩,
    ⟨_, PySem.W.mg_of X G v_IT_BURNS, ⟨_, rfl⟩⟩,
    ⟨_, PySem.W.mg_of X G v_MOST_PLACES, ⟨_, rfl⟩⟩,
    ⟨_, PySem.W.mg_of X G v_PLAIN_CALLS, rfl⟩,
    fun P w => kdi_of [(0, t_PLAIN_CALLS_0, .ref f_begin), (2, t_PLAIN_CALLS_1, .ref f_drop), (6, t_PLAIN_CALLS_2, .ref f_turn), (7, t_PLAIN_CALLS_3, .ref f_again), (8, t_PLAIN_CALLS_4, .ref f_burns), (9, t_PLAIN_CALLS_5, .ref f_saved), (10, t_PLAIN_CALLS_6, .ref f_safe), (21, t_PLAIN_CALLS_7, .ref f_state)] l_PLAIN_CALLS (by show ([(0 : Int), (2 : Int), (6 : Int), (7 : Int), (8 : Int), (9 : Int), (10 : Int), (21 : Int)].all fun i => hashInt i == i) = true; decide) y_PLAIN_CALLS (by show List.Nodup [(0 : Int), (2 : Int), (6 : Int), (7 : Int), (8 : Int), (9 : Int), (10 : Int), (21 : Int)]; decide),
    ⟨_, PySem.W.mg_of X G v_NUMBER_CALLS, rfl⟩,
    fun P w => kdi_of [(1, t_NUMBER_CALLS_0, .ref f_join), (3, t_NUMBER_CALLS_1, .ref f_fire), (4, t_NUMBER_CALLS_2, .ref f_each), (5, t_NUMBER_CALLS_3, .ref f_save)] l_NUMBER_CALLS (by show ([(1 : Int), (3 : Int), (4 : Int), (5 : Int)].all fun i => hashInt i == i) = true; decide) y_NUMBER_CALLS (by show List.Nodup [(1 : Int), (3 : Int), (4 : Int), (5 : Int)]; decide),
    ⟨_, PySem.W.mg_of X G v_PLAIN_QUESTIONS, rfl⟩,
    fun P w => kdi_of [(11, t_PLAIN_QUESTIONS_0, .ref f_best), (12, t_PLAIN_QUESTIONS_1, .ref f_greedy), (18, t_PLAIN_QUESTIONS_2, .ref f_worst), (19, t_PLAIN_QUESTIONS_3, .ref f_from_all), (20, t_PLAIN_QUESTIONS_4, .ref f_mores)] l_PLAIN_QUESTIONS (by show ([(11 : Int), (12 : Int), (18 : Int), (19 : Int), (20 : Int)].all fun i => hashInt i == i) = true; decide) y_PLAIN_QUESTIONS (by show List.Nodup [(11 : Int), (12 : Int), (18 : Int), (19 : Int), (20 : Int)]; decide),
    ⟨_, PySem.W.mg_of X G v_NUMBER_QUESTIONS, rfl⟩,
    fun P w => kdi_of [(14, t_NUMBER_QUESTIONS_0, .ref f_size), (15, t_NUMBER_QUESTIONS_1, .ref f_deep), (16, t_NUMBER_QUESTIONS_2, .ref f_level)] l_NUMBER_QUESTIONS (by show ([(14 : Int), (15 : Int), (16 : Int)].all fun i => hashInt i == i) = true; decide) y_NUMBER_QUESTIONS (by show List.Nodup [(14 : Int), (15 : Int), (16 : Int)]; decide),
    ⟨_, PySem.W.mg_of X G v_ROW_QUESTIONS, rfl⟩,
    fun P w => kdi_of [(13, t_ROW_QUESTIONS_0, .ref f_run), (17, t_ROW_QUESTIONS_1, .ref f_kept)] l_ROW_QUESTIONS (by show ([(13 : Int), (17 : Int)].all fun i => hashInt i == i) = true; decide) y_ROW_QUESTIONS (by show List.Nodup [(13 : Int), (17 : Int)]; decide),
    ⟨_, PySem.W.mg_of X G v_NOT_BEGUN, ⟨_, rfl⟩⟩,
    ⟨_, PySem.W.mg_of X G v_BEGIN, ⟨_, rfl⟩⟩,
    PySem.W.mg_of X G n_neighbours,
    PySem.W.mg_of X G n_ways_to,
    PySem.W.mg_of X G n_further,
    PySem.W.mg_of X G n_count_beyond,
    PySem.W.mg_of X G n_first_front,
    PySem.W.mg_of X G n_front_behind,
    PySem.W.mg_of X G n_choices,
    PySem.W.mg_of X G n_count_kept,
    PySem.W.mg_of X G n_best_from,
    PySem.W.mg_of X G n_best_row,
    PySem.W.mg_of X G n_greatest_first,
    PySem.W.mg_of X G n_put_fire_back,
    PySem.W.mg_of X G n_is_place,
    PySem.W.mg_of X G n_is_under_way,
    PySem.W.mg_of X G n_catches,
    PySem.W.mg_of X G n_gone_on,
    PySem.W.mg_of X G n_counted,
    PySem.W.mg_of X G n_begin,
    PySem.W.mg_of X G n_join,
    PySem.W.mg_of X G n_drop,
    PySem.W.mg_of X G n_fire,
    PySem.W.mg_of X G n_each,
    PySem.W.mg_of X G n_save,
    PySem.W.mg_of X G n_turn,
    PySem.W.mg_of X G n_again,
    PySem.W.mg_of X G n_burns,
    PySem.W.mg_of X G n_saved,
    PySem.W.mg_of X G n_safe,
    PySem.W.mg_of X G n_state,
    PySem.W.mg_of X G n_ways_now,
    PySem.W.mg_of X G n_are_in_range,
    PySem.W.mg_of X G n_at_beginning,
    PySem.W.mg_of X G n_most_kept,
    PySem.W.mg_of X G n_most_by_origin,
    PySem.W.mg_of X G n_best,
    PySem.W.mg_of X G n_greedy,
    PySem.W.mg_of X G n_run,
    PySem.W.mg_of X G n_size,
    PySem.W.mg_of X G n_deep,
    PySem.W.mg_of X G n_level,
    PySem.W.mg_of X G n_kept,
    PySem.W.mg_of X G n_worst,
    PySem.W.mg_of X G n_from_all,
    PySem.W.mg_of X G n_mores,
    PySem.W.mg_of X G n_end_of_call,
    PySem.W.mg_of X G n_answer_of,
    PySem.W.mg_of X G n_answers⟩
  have D_neighbours : C8.Def K mg "neighbours" s_neighbours f_neighbours _ := ⟨⟨_, _, _, _, _, _, _, _, _, _, rfl, l_neighbours, c_neighbours⟩, PySem.W.mg_of X G n_neighbours, k_neighbours⟩
  have H_neighbours : Has K mg "neighbours" s_neighbours ["joined", "p"] := ⟨_, _, D_neighbours, D_neighbours.fn.binds rfl (fun _ _ _ _ _ _ us hl => match us, hl with | [_, _], _ => rfl)⟩
  have D_ways_to : C8.Def K mg "ways_to" s_ways_to f_ways_to _ := ⟨⟨_, _, _, _, _, _, _, _, _, _, rfl, l_ways_to, c_ways_to⟩, PySem.W.mg_of X G n_ways_to, k_ways_to⟩
  have H_ways_to : Has K mg "ways_to" s_ways_to ["joined", "origin"] := ⟨_, _, D_ways_to, D_ways_to.fn.binds rfl (fun _ _ _ _ _ _ us hl => match us, hl with | [_, _], _ => rfl)⟩
  have D_further : C8.Def K mg "further" s_further f_further _ := ⟨⟨_, _, _, _, _, _, _, _, _, _, rfl, l_further, c_further⟩, PySem.W.mg_of X G n_further, k_further⟩
  have H_further : Has K mg "further" s_further ["ways", "places"] := ⟨_, _, D_further, D_further.fn.binds rfl (fun _ _ _ _ _ _ us hl => match us, hl with | [_, _], _ => rfl)⟩
  have D_count_beyond : C8.Def K mg "count_beyond" s_count_beyond f_count_beyond _ := ⟨⟨_, _, _, _, _, _, _, _, _, _, rfl, l_count_beyond, c_count_beyond⟩, PySem.W.mg_of X G n_count_beyond, k_count_beyond⟩
  have H_count_beyond : Has K mg "count_beyond" s_count_beyond ["ways", "places"] := ⟨_, _, D_count_beyond, D_count_beyond.fn.binds rfl (fun _ _ _ _ _ _ us hl => match us, hl with | [_, _], _ => rfl)⟩
  have D_first_front : C8.Def K mg "first_front" s_first_front f_first_front _ := ⟨⟨_, _, _, _, _, _, _, _, _, _, rfl, l_first_front, c_first_front⟩, PySem.W.mg_of X G n_first_front, k_first_front⟩
  have H_first_front : Has K mg "first_front" s_first_front ["ways"] := ⟨_, _, D_first_front, D_first_front.fn.binds rfl (fun _ _ _ _ _ _ us hl => match us, hl with | [_], _ => rfl)⟩
  have D_front_behind : C8.Def K mg "front_behind" s_front_behind f_front_behind _ := ⟨⟨_, _, _, _, _, _, _, _, _, _, rfl, l_front_behind, c_front_behind⟩, PySem.W.mg_of X G n_front_behind, k_front_behind⟩
  have H_front_behind : Has K mg "front_behind" s_front_behind ["ways", "front", "chosen"] := ⟨_, _, D_front_behind, D_front_behind.fn.binds rfl (fun _ _ _ _ _ _ us hl => match us, hl with | [_, _, _], _ => rfl)⟩
  have D_choices : C8.Def K mg "choices" s_choices f_choices _ := ⟨⟨_, _, _, _, _, _, _, _, _, _, rfl, l_choices, c_choices⟩, PySem.W.mg_of X G n_choices, k_choices⟩
  have H_choices : Has K mg "choices" s_choices ["front", "each"] := ⟨_, _, D_choices, D_choices.fn.binds rfl (fun _ _ _ _ _ _ us hl => match us, hl with | [_, _], _ => rfl)⟩
  have D_count_kept : C8.Def K mg "count_kept" s_count_kept f_count_kept _ := ⟨⟨_, _, _, _, _, _, _, _, _, _, rfl, l_count_kept, c_count_kept⟩, PySem.W.mg_of X G n_count_kept, k_count_kept⟩
  have H_count_kept : Has K mg "count_kept" s_count_kept ["ways", "places"] := ⟨_, _, D_count_kept, D_count_kept.fn.binds rfl (fun _ _ _ _ _ _ us hl => match us, hl with | [_, _], _ => rfl)⟩
  have D_best_from : C8.Def K mg "best_from" s_best_from f_best_from _ := ⟨⟨_, _, _, _, _, _, _, _, _, _, rfl, l_best_from, c_best_from⟩, PySem.W.mg_of X G n_best_from, k_best_from⟩
  have H_best_from : Has K mg "best_from" s_best_from ["ways", "each", "front"] := ⟨_, _, D_best_from, D_best_from.fn.binds rfl (fun _ _ _ _ _ _ us hl => match us, hl with | [_, _, _], _ => rfl)⟩
  have D_best_row : C8.Def K mg "best_row" s_best_row f_best_row _ := ⟨⟨_, _, _, _, _, _, _, _, _, _, rfl, l_best_row, c_best_row⟩, PySem.W.mg_of X G n_best_row, k_best_row⟩
  have H_best_row : Has K mg "best_row" s_best_row ["ways", "each"] := ⟨_, _, D_best_row, D_best_row.fn.binds rfl (fun _ _ _ _ _ _ us hl => match us, hl with | [_, _], _ => rfl)⟩
  have D_greatest_first : C8.Def K mg "greatest_first" s_greatest_first f_greatest_first _ := ⟨⟨_, _, _, _, _, _, _, _, _, _, rfl, l_greatest_first, c_greatest_first⟩, PySem.W.mg_of X G n_greatest_first, k_greatest_first⟩
  have H_greatest_first : HasC K mg "greatest_first" s_greatest_first ["ways", "each"] cod := ⟨_, _, D_greatest_first, D_greatest_first.fn.binds rfl (fun _ _ _ _ _ _ us hl => match us, hl with | [_, _], _ => rfl), rfl⟩
  have D_put_fire_back : C8.Def K mg "put_fire_back" s_put_fire_back f_put_fire_back _ := ⟨⟨_, _, _, _, _, _, _, _, _, _, rfl, l_put_fire_back, c_put_fire_back⟩, PySem.W.mg_of X G n_put_fire_back, k_put_fire_back⟩
  have H_put_fire_back : Has K mg "put_fire_back" s_put_fire_back ["session"] := ⟨_, _, D_put_fire_back, D_put_fire_back.fn.binds rfl (fun _ _ _ _ _ _ us hl => match us, hl with | [_], _ => rfl)⟩
  have D_is_place : C8.Def K mg "is_place" s_is_place f_is_place _ := ⟨⟨_, _, _, _, _, _, _, _, _, _, rfl, l_is_place, c_is_place⟩, PySem.W.mg_of X G n_is_place, k_is_place⟩
  have H_is_place : Has K mg "is_place" s_is_place ["session", "p"] := ⟨_, _, D_is_place, D_is_place.fn.binds rfl (fun _ _ _ _ _ _ us hl => match us, hl with | [_, _], _ => rfl)⟩
  have D_is_under_way : C8.Def K mg "is_under_way" s_is_under_way f_is_under_way _ := ⟨⟨_, _, _, _, _, _, _, _, _, _, rfl, l_is_under_way, c_is_under_way⟩, PySem.W.mg_of X G n_is_under_way, k_is_under_way⟩
  have H_is_under_way : Has K mg "is_under_way" s_is_under_way ["session"] := ⟨_, _, D_is_under_way, D_is_under_way.fn.binds rfl (fun _ _ _ _ _ _ us hl => match us, hl with | [_], _ => rfl)⟩
  have D_catches : C8.Def K mg "catches" s_catches f_catches _ := ⟨⟨_, _, _, _, _, _, _, _, _, _, rfl, l_catches, c_catches⟩, PySem.W.mg_of X G n_catches, k_catches⟩
  have H_catches : Has K mg "catches" s_catches ["session", "p", "burning"] := ⟨_, _, D_catches, D_catches.fn.binds rfl (fun _ _ _ _ _ _ us hl => match us, hl with | [_, _, _], _ => rfl)⟩
  have D_gone_on : C8.Def K mg "gone_on" s_gone_on f_gone_on _ := ⟨⟨_, _, _, _, _, _, _, _, _, _, rfl, l_gone_on, c_gone_on⟩, PySem.W.mg_of X G n_gone_on, k_gone_on⟩
  have H_gone_on : Has K mg "gone_on" s_gone_on ["session", "burning"] := ⟨_, _, D_gone_on, D_gone_on.fn.binds rfl (fun _ _ _ _ _ _ us hl => match us, hl with | [_, _], _ => rfl)⟩
  have D_counted : C8.Def K mg "counted" s_counted f_counted _ := ⟨⟨_, _, _, _, _, _, _, _, _, _, rfl, l_counted, c_counted⟩, PySem.W.mg_of X G n_counted, k_counted⟩
  have H_counted : Has K mg "counted" s_counted ["places"] := ⟨_, _, D_counted, D_counted.fn.binds rfl (fun _ _ _ _ _ _ us hl => match us, hl with | [_], _ => rfl)⟩
  have D_begin : C8.Def K mg "begin" s_begin f_begin _ := ⟨⟨_, _, _, _, _, _, _, _, _, _, rfl, l_begin, c_begin⟩, PySem.W.mg_of X G n_begin, k_begin⟩
  have H_begin : Has K mg "begin" s_begin ["session"] := ⟨_, _, D_begin, D_begin.fn.binds rfl (fun _ _ _ _ _ _ us hl => match us, hl with | [_], _ => rfl)⟩
  have D_join : C8.Def K mg "join" s_join f_join _ := ⟨⟨_, _, _, _, _, _, _, _, _, _, rfl, l_join, c_join⟩, PySem.W.mg_of X G n_join, k_join⟩
  have H_join : Has K mg "join" s_join ["session", "p"] := ⟨_, _, D_join, D_join.fn.binds rfl (fun _ _ _ _ _ _ us hl => match us, hl with | [_, _], _ => rfl)⟩
  have D_drop : C8.Def K mg "drop" s_drop f_drop _ := ⟨⟨_, _, _, _, _, _, _, _, _, _, rfl, l_drop, c_drop⟩, PySem.W.mg_of X G n_drop, k_drop⟩
  have H_drop : Has K mg "drop" s_drop ["session"] := ⟨_, _, D_drop, D_drop.fn.binds rfl (fun _ _ _ _ _ _ us hl => match us, hl with | [_], _ => rfl)⟩
  have D_fire : C8.Def K mg "fire" s_fire f_fire _ := ⟨⟨_, _, _, _, _, _, _, _, _, _, rfl, l_fire, c_fire⟩, PySem.W.mg_of X G n_fire, k_fire⟩
  have H_fire : Has K mg "fire" s_fire ["session", "p"] := ⟨_, _, D_fire, D_fire.fn.binds rfl (fun _ _ _ _ _ _ us hl => match us, hl with | [_, _], _ => rfl)⟩
  have D_each : C8.Def K mg "each" s_each f_each _ := ⟨⟨_, _, _, _, _, _, _, _, _, _, rfl, l_each, c_each⟩, PySem.W.mg_of X G n_each, k_each⟩
  have H_each : Has K mg "each" s_each ["session", "n"] := ⟨_, _, D_each, D_each.fn.binds rfl (fun _ _ _ _ _ _ us hl => match us, hl with | [_, _], _ => rfl)⟩
  have D_save : C8.Def K mg "save" s_save f_save _ := ⟨⟨_, _, _, _, _, _, _, _, _, _, rfl, l_save, c_save⟩, PySem.W.mg_of X G n_save, k_save⟩
  have H_save : Has K mg "save" s_save ["session", "p"] := ⟨_, _, D_save, D_save.fn.binds rfl (fun _ _ _ _ _ _ us hl => match us, hl with | [_, _], _ => rfl)⟩
  have D_turn : C8.Def K mg "turn" s_turn f_turn _ := ⟨⟨_, _, _, _, _, _, _, _, _, _, rfl, l_turn, c_turn⟩, PySem.W.mg_of X G n_turn, k_turn⟩
  have H_turn : Has K mg "turn" s_turn ["session"] := ⟨_, _, D_turn, D_turn.fn.binds rfl (fun _ _ _ _ _ _ us hl => match us, hl with | [_], _ => rfl)⟩
  have D_again : C8.Def K mg "again" s_again f_again _ := ⟨⟨_, _, _, _, _, _, _, _, _, _, rfl, l_again, c_again⟩, PySem.W.mg_of X G n_again, k_again⟩
  have H_again : Has K mg "again" s_again ["session"] := ⟨_, _, D_again, D_again.fn.binds rfl (fun _ _ _ _ _ _ us hl => match us, hl with | [_], _ => rfl)⟩
  have D_burns : C8.Def K mg "burns" s_burns f_burns _ := ⟨⟨_, _, _, _, _, _, _, _, _, _, rfl, l_burns, c_burns⟩, PySem.W.mg_of X G n_burns, k_burns⟩
  have H_burns : Has K mg "burns" s_burns ["session"] := ⟨_, _, D_burns, D_burns.fn.binds rfl (fun _ _ _ _ _ _ us hl => match us, hl with | [_], _ => rfl)⟩
  have D_saved : C8.Def K mg "saved" s_saved f_saved _ := ⟨⟨_, _, _, _, _, _, _, _, _, _, rfl, l_saved, c_saved⟩, PySem.W.mg_of X G n_saved, k_saved⟩
  have H_saved : Has K mg "saved" s_saved ["session"] := ⟨_, _, D_saved, D_saved.fn.binds rfl (fun _ _ _ _ _ _ us hl => match us, hl with | [_], _ => rfl)⟩
  have D_safe : C8.Def K mg "safe" s_safe f_safe _ := ⟨⟨_, _, _, _, _, _, _, _, _, _, rfl, l_safe, c_safe⟩, PySem.W.mg_of X G n_safe, k_safe⟩
  have H_safe : Has K mg "safe" s_safe ["session"] := ⟨_, _, D_safe, D_safe.fn.binds rfl (fun _ _ _ _ _ _ us hl => match us, hl with | [_], _ => rfl)⟩
  have D_state : C8.Def K mg "state" s_state f_state _ := ⟨⟨_, _, _, _, _, _, _, _, _, _, rfl, l_state, c_state⟩, PySem.W.mg_of X G n_state, k_state⟩
  have H_state : Has K mg "state" s_state ["session"] := ⟨_, _, D_state, D_state.fn.binds rfl (fun _ _ _ _ _ _ us hl => match us, hl with | [_], _ => rfl)⟩
  have D_ways_now : C8.Def K mg "ways_now" s_ways_now f_ways_now _ := ⟨⟨_, _, _, _, _, _, _, _, _, _, rfl, l_ways_now, c_ways_now⟩, PySem.W.mg_of X G n_ways_now, k_ways_now⟩
  have H_ways_now : Has K mg "ways_now" s_ways_now ["session"] := ⟨_, _, D_ways_now, D_ways_now.fn.binds rfl (fun _ _ _ _ _ _ us hl => match us, hl with | [_], _ => rfl)⟩
  have D_are_in_range : C8.Def K mg "are_in_range" s_are_in_range f_are_in_range _ := ⟨⟨_, _, _, _, _, _, _, _, _, _, rfl, l_are_in_range, c_are_in_range⟩, PySem.W.mg_of X G n_are_in_range, k_are_in_range⟩
  have H_are_in_range : Has K mg "are_in_range" s_are_in_range ["session", "places"] := ⟨_, _, D_are_in_range, D_are_in_range.fn.binds rfl (fun _ _ _ _ _ _ us hl => match us, hl with | [_, _], _ => rfl)⟩
  have D_at_beginning : C8.Def K mg "at_beginning" s_at_beginning f_at_beginning _ := ⟨⟨_, _, _, _, _, _, _, _, _, _, rfl, l_at_beginning, c_at_beginning⟩, PySem.W.mg_of X G n_at_beginning, k_at_beginning⟩
  have H_at_beginning : Has K mg "at_beginning" s_at_beginning ["session"] := ⟨_, _, D_at_beginning, D_at_beginning.fn.binds rfl (fun _ _ _ _ _ _ us hl => match us, hl with | [_], _ => rfl)⟩
  have D_most_kept : C8.Def K mg "most_kept" s_most_kept f_most_kept _ := ⟨⟨_, _, _, _, _, _, _, _, _, _, rfl, l_most_kept, c_most_kept⟩, PySem.W.mg_of X G n_most_kept, k_most_kept⟩
  have H_most_kept : Has K mg "most_kept" s_most_kept ["session", "origin", "each"] := ⟨_, _, D_most_kept, D_most_kept.fn.binds rfl (fun _ _ _ _ _ _ us hl => match us, hl with | [_, _, _], _ => rfl)⟩
  have D_most_by_origin : C8.Def K mg "most_by_origin" s_most_by_origin f_most_by_origin _ := ⟨⟨_, _, _, _, _, _, _, _, _, _, rfl, l_most_by_origin, c_most_by_origin⟩, PySem.W.mg_of X G n_most_by_origin, k_most_by_origin⟩
  have H_most_by_origin : Has K mg "most_by_origin" s_most_by_origin ["session"] := ⟨_, _, D_most_by_origin, D_most_by_origin.fn.binds rfl (fun _ _ _ _ _ _ us hl => match us, hl with | [_], _ => rfl)⟩
  have D_best : C8.Def K mg "best" s_best f_best _ := ⟨⟨_, _, _, _, _, _, _, _, _, _, rfl, l_best, c_best⟩, PySem.W.mg_of X G n_best, k_best⟩
  have H_best : Has K mg "best" s_best ["session"] := ⟨_, _, D_best, D_best.fn.binds rfl (fun _ _ _ _ _ _ us hl => match us, hl with | [_], _ => rfl)⟩
  have D_greedy : C8.Def K mg "greedy" s_greedy f_greedy _ := ⟨⟨_, _, _, _, _, _, _, _, _, _, rfl, l_greedy, c_greedy⟩, PySem.W.mg_of X G n_greedy, k_greedy⟩
  have H_greedy : Has K mg "greedy" s_greedy ["session"] := ⟨_, _, D_greedy, D_greedy.fn.binds rfl (fun _ _ _ _ _ _ us hl => match us, hl with | [_], _ => rfl)⟩
  have D_run : C8.Def K mg "run" s_run f_run _ := ⟨⟨_, _, _, _, _, _, _, _, _, _, rfl, l_run, c_run⟩, PySem.W.mg_of X G n_run, k_run⟩
  have H_run : Has K mg "run" s_run ["session", "row"] := ⟨_, _, D_run, D_run.fn.binds rfl (fun _ _ _ _ _ _ us hl => match us, hl with | [_, _], _ => rfl)⟩
  have D_size : C8.Def K mg "size" s_size f_size _ := ⟨⟨_, _, _, _, _, _, _, _, _, _, rfl, l_size, c_size⟩, PySem.W.mg_of X G n_size, k_size⟩
  have H_size : Has K mg "size" s_size ["session", "p"] := ⟨_, _, D_size, D_size.fn.binds rfl (fun _ _ _ _ _ _ us hl => match us, hl with | [_, _], _ => rfl)⟩
  have D_deep : C8.Def K mg "deep" s_deep f_deep _ := ⟨⟨_, _, _, _, _, _, _, _, _, _, rfl, l_deep, c_deep⟩, PySem.W.mg_of X G n_deep, k_deep⟩
  have H_deep : Has K mg "deep" s_deep ["session", "p"] := ⟨_, _, D_deep, D_deep.fn.binds rfl (fun _ _ _ _ _ _ us hl => match us, hl with | [_, _], _ => rfl)⟩
  have D_level : C8.Def K mg "level" s_level f_level _ := ⟨⟨_, _, _, _, _, _, _, _, _, _, rfl, l_level, c_level⟩, PySem.W.mg_of X G n_level, k_level⟩
  have H_level : Has K mg "level" s_level ["session", "n"] := ⟨_, _, D_level, D_level.fn.binds rfl (fun _ _ _ _ _ _ us hl => match us, hl with | [_, _], _ => rfl)⟩
  have D_kept : C8.Def K mg "kept" s_kept f_kept _ := ⟨⟨_, _, _, _, _, _, _, _, _, _, rfl, l_kept, c_kept⟩, PySem.W.mg_of X G n_kept, k_kept⟩
  have H_kept : Has K mg "kept" s_kept ["session", "places"] := ⟨_, _, D_kept, D_kept.fn.binds rfl (fun _ _ _ _ _ _ us hl => match us, hl with | [_, _], _ => rfl)⟩
  have D_worst : C8.Def K mg "worst" s_worst f_worst _ := ⟨⟨_, _, _, _, _, _, _, _, _, _, rfl, l_worst, c_worst⟩, PySem.W.mg_of X G n_worst, k_worst⟩
  have H_worst : Has K mg "worst" s_worst ["session"] := ⟨_, _, D_worst, D_worst.fn.binds rfl (fun _ _ _ _ _ _ us hl => match us, hl with | [_], _ => rfl)⟩
  have D_from_all : C8.Def K mg "from_all" s_from_all f_from_all _ := ⟨⟨_, _, _, _, _, _, _, _, _, _, rfl, l_from_all, c_from_all⟩, PySem.W.mg_of X G n_from_all, k_from_all⟩
  have H_from_all : Has K mg "from_all" s_from_all ["session"] := ⟨_, _, D_from_all, D_from_all.fn.binds rfl (fun _ _ _ _ _ _ us hl => match us, hl with | [_], _ => rfl)⟩
  have D_mores : C8.Def K mg "mores" s_mores f_mores _ := ⟨⟨_, _, _, _, _, _, _, _, _, _, rfl, l_mores, c_mores⟩, PySem.W.mg_of X G n_mores, k_mores⟩
  have H_mores : Has K mg "mores" s_mores ["session"] := ⟨_, _, D_mores, D_mores.fn.binds rfl (fun _ _ _ _ _ _ us hl => match us, hl with | [_], _ => rfl)⟩
  have D_end_of_call : C8.Def K mg "end_of_call" s_end_of_call f_end_of_call _ := ⟨⟨_, _, _, _, _, _, _, _, _, _, rfl, l_end_of_call, c_end_of_call⟩, PySem.W.mg_of X G n_end_of_call, k_end_of_call⟩
  have H_end_of_call : Has K mg "end_of_call" s_end_of_call ["calls", "at"] := ⟨_, _, D_end_of_call, D_end_of_call.fn.binds rfl (fun _ _ _ _ _ _ us hl => match us, hl with | [_, _], _ => rfl)⟩
  have D_answer_of : C8.Def K mg "answer_of" s_answer_of f_answer_of _ := ⟨⟨_, _, _, _, _, _, _, _, _, _, rfl, l_answer_of, c_answer_of⟩, PySem.W.mg_of X G n_answer_of, k_answer_of⟩
  have H_answer_of : Has K mg "answer_of" s_answer_of ["session", "call", "given"] := ⟨_, _, D_answer_of, D_answer_of.fn.binds rfl (fun _ _ _ _ _ _ us hl => match us, hl with | [_, _, _], _ => rfl)⟩
  have D_answers : C8.Def K mg "answers" s_answers f_answers _ := ⟨⟨_, _, _, _, _, _, _, _, _, _, rfl, l_answers, c_answers⟩, PySem.W.mg_of X G n_answers, k_answers⟩
  have H_answers : Has K mg "answers" s_answers ["calls"] := ⟨_, _, D_answers, D_answers.fn.binds rfl (fun _ _ _ _ _ _ us hl => match us, hl with | [_], _ => rfl)⟩
  have F_Ways_init : C8.Fun K "__init__" "Ways.__init__" s_Ways_init i_Ways_init _ := ⟨_, _, _, _, _, _, _, _, _, _, rfl, l_Ways_init, c_Ways_init⟩
  have H_Ways_init : HasInit K mg "Ways" C_Ways "Ways.__init__" s_Ways_init ["self", "many", "origin"] := ⟨_, _, ⟨mk_Ways, in_Ways_init, fn_Ways_init, kc_Ways⟩, F_Ways_init, F_Ways_init.binds rfl (fun _ _ _ _ _ _ us hl => match us, hl with | [_, _, _], _ => rfl)⟩
  have F_Session_init : C8.Fun K "__init__" "Session.__init__" s_Session_init i_Session_init _ := ⟨_, _, _, _, _, _, _, _, _, _, rfl, l_Session_init, c_Session_init⟩
  have H_Session_init : HasInit K mg "Session" C_Session "Session.__init__" s_Session_init ["self"] := ⟨_, _, ⟨mk_Session, in_Session_init, fn_Session_init, kc_Session⟩, F_Session_init, F_Session_init.binds rfl (fun _ _ _ _ _ _ us hl => match us, hl with | [_], _ => rfl)⟩
  refine ⟨PySem.W.fnOf "answers" "answers" (C8.fnArgs s_answers) (C8.fnBody s_answers) (C8.fnScope s_answers) .none kV_answers dc_answers pm_answers an_answers cd_answers ct_answers, cod, tab, ht_tab, np_tab, fun s us hu => match us, hu with | [_], _ => .of_eq rfl, fun base KB GB TB => ?_⟩
  have C_Session_init := ok_Session_init (P := P) (w := w) (base := base) T H_Session_init  len_Session_init (pure_Session_init T)
  have C_end_of_call := ok_end_of_call (P := P) (w := w) (base := base) T H_end_of_call  len_end_of_call (pure_end_of_call T)
  have C_put_fire_back := ok_put_fire_back (P := P) (w := w) (base := base) T H_put_fire_back  len_put_fire_back (pure_put_fire_back T)
  have C_begin := ok_begin (P := P) (w := w) (base := base) T H_begin C_put_fire_back len_begin (pure_begin T)
  have C_is_under_way := ok_is_under_way (P := P) (w := w) (base := base) T H_is_under_way  len_is_under_way (pure_is_under_way T)
  have C_drop := ok_drop (P := P) (w := w) (base := base) T H_drop C_is_under_way len_drop (pure_drop T)
  have C_catches := ok_catches (P := P) (w := w) (base := base) T H_catches  len_catches (pure_catches T)
  have C_gone_on := ok_gone_on (P := P) (w := w) (base := base) T H_gone_on C_catches len_gone_on (pure_gone_on T)
  have C_turn := ok_turn (P := P) (w := w) (base := base) T H_turn C_gone_on len_turn (pure_turn T)
  have C_again := ok_again (P := P) (w := w) (base := base) T H_again C_put_fire_back len_again (pure_again T)
  have C_counted := ok_counted (P := P) (w := w) (base := base) T H_counted  len_counted (pure_counted T)
  have C_burns := ok_burns (P := P) (w := w) (base := base) T H_burns C_counted len_burns (pure_burns T)
  have C_saved := ok_saved (P := P) (w := w) (base := base) T H_saved C_counted len_saved (pure_saved T)
  have C_safe := ok_safe (P := P) (w := w) (base := base) T H_safe C_gone_on C_counted len_safe (pure_safe T)
  have C_state := ok_state (P := P) (w := w) (base := base) T H_state  len_state (pure_state T)
  have A_PLAIN_CALLS : ∀ f sp, S_PLAIN_CALLS K (⟨C_Ways, C_Session, cod, tab, a_PLAIN_CALLS, a_NUMBER_CALLS, a_PLAIN_QUESTIONS, a_NUMBER_QUESTIONS, a_ROW_QUESTIONS, f_neighbours, f_ways_to, f_further, f_count_beyond, f_first_front, f_front_behind, f_choices, f_count_kept, f_best_from, f_best_row, f_greatest_first, f_put_fire_back, f_is_place, f_is_under_way, f_catches, f_gone_on, f_counted, f_begin, f_join, f_drop, f_fire, f_each, f_save, f_turn, f_again, f_burns, f_saved, f_safe, f_state, f_ways_now, f_are_in_range, f_at_beginning, f_most_kept, f_most_by_origin, f_best, f_greedy, f_run, f_size, f_deep, f_level, f_kept, f_worst, f_from_all, f_mores, f_end_of_call, f_answer_of, f_answers⟩ : Locs) f sp → Held P w K mg base 3 f sp := by
    rintro f sp h
    rcases h with ⟨rfl, rfl⟩ | ⟨rfl, rfl⟩ | ⟨rfl, rfl⟩ | ⟨rfl, rfl⟩ | ⟨rfl, rfl⟩ | ⟨rfl, rfl⟩ | ⟨rfl, rfl⟩ | ⟨rfl, rfl⟩
    · exact held_of C_begin T.g_begin (by decide)
    · exact held_of C_drop T.g_drop (by decide)
    · exact held_of C_turn T.g_turn (by decide)
    · exact held_of C_again T.g_again (by decide)
    · exact held_of C_burns T.g_burns (by decide)
    · exact held_of C_saved T.g_saved (by decide)
    · exact held_of C_safe T.g_safe (by decide)
    · exact held_of C_state T.g_state (by decide)
  have C_is_place := ok_is_place (P := P) (w := w) (base := base) T H_is_place  len_is_place (pure_is_place T)
  have C_join := ok_join (P := P) (w := w) (base := base) T H_join C_is_place C_is_under_way len_join (pure_join T)
  have C_fire := ok_fire (P := P) (w := w) (base := base) T H_fire C_is_place C_put_fire_back len_fire (pure_fire T)
  have C_each := ok_each (P := P) (w := w) (base := base) T H_each C_put_fire_back len_each (pure_each T)
  have C_save := ok_save (P := P) (w := w) (base := base) T H_save C_is_place len_save (pure_save T)
  have A_NUMBER_CALLS : ∀ f sp, S_NUMBER_CALLS K (⟨C_Ways, C_Session, cod, tab, a_PLAIN_CALLS, a_NUMBER_CALLS, a_PLAIN_QUESTIONS, a_NUMBER_QUESTIONS, a_ROW_QUESTIONS, f_neighbours, f_ways_to, f_further, f_count_beyond, f_first_front, f_front_behind, f_choices, f_count_kept, f_best_from, f_best_row, f_greatest_first, f_put_fire_back, f_is_place, f_is_under_way, f_catches, f_gone_on, f_counted, f_begin, f_join, f_drop, f_fire, f_each, f_save, f_turn, f_again, f_burns, f_saved, f_safe, f_state, f_ways_now, f_are_in_range, f_at_beginning, f_most_kept, f_most_by_origin, f_best, f_greedy, f_run, f_size, f_deep, f_level, f_kept, f_worst, f_from_all, f_mores, f_end_of_call, f_answer_of, f_answers⟩ : Locs) f sp → Held P w K mg base 2 f sp := by
    rintro f sp h
    rcases h with ⟨rfl, rfl⟩ | ⟨rfl, rfl⟩ | ⟨rfl, rfl⟩ | ⟨rfl, rfl⟩
    · exact held_of C_join T.g_join (by decide)
    · exact held_of C_fire T.g_fire (by decide)
    · exact held_of C_each T.g_each (by decide)
    · exact held_of C_save T.g_save (by decide)
  have C_Ways_init := ok_Ways_init (P := P) (w := w) (base := base) T H_Ways_init  len_Ways_init (pure_Ways_init T)
  have C_neighbours := ok_neighbours (P := P) (w := w) (base := base) T H_neighbours  len_neighbours (pure_neighbours T)
  have C_ways_to := ok_ways_to (P := P) (w := w) (base := base) T H_ways_to C_Ways_init C_neighbours len_ways_to (pure_ways_to T)
  have C_ways_now := ok_ways_now (P := P) (w := w) (base := base) T H_ways_now C_ways_to len_ways_now (pure_ways_now T)
  have C_choices := ok_choices (P := P) (w := w) (base := base) T H_choices  len_choices zero_choices fun n => pure_choices n T
  have C_further := ok_further (P := P) (w := w) (base := base) T H_further  len_further (pure_further T)
  have C_front_behind := ok_front_behind (P := P) (w := w) (base := base) T H_front_behind C_further len_front_behind (pure_front_behind T)
  have C_count_kept := ok_count_kept (P := P) (w := w) (base := base) T H_count_kept  len_count_kept (pure_count_kept T)
  have C_best_from := ok_best_from (P := P) (w := w) (base := base) T H_best_from C_choices C_front_behind C_count_kept len_best_from zero_best_from fun n => pure_best_from n T
  have C_first_front := ok_first_front (P := P) (w := w) (base := base) T H_first_front C_further len_first_front (pure_first_front T)
  have C_best_row := ok_best_row (P := P) (w := w) (base := base) T H_best_row C_best_from C_first_front len_best_row (pure_best_row T)
  have C_best := ok_best (P := P) (w := w) (base := base) T H_best C_ways_now C_best_row C_count_kept len_best (pure_best T)
  have C_greatest_first := ok_greatest_first (P := P) (w := w) (base := base) T H_greatest_first C_first_front C_front_behind ⟨TB⟩ len_greatest_first (pure_greatest_first T)
  have C_greedy := ok_greedy (P := P) (w := w) (base := base) T H_greedy C_ways_now C_greatest_first C_count_kept len_greedy (pure_greedy T)
  have C_most_kept := ok_most_kept (P := P) (w := w) (base := base) T H_most_kept C_ways_to C_count_kept C_best_row len_most_kept (pure_most_kept T)
  have C_most_by_origin := ok_most_by_origin (P := P) (w := w) (base := base) T H_most_by_origin C_most_kept len_most_by_origin (pure_most_by_origin T)
  have C_worst := ok_worst (P := P) (w := w) (base := base) T H_worst C_most_by_origin len_worst (pure_worst T)
  have C_from_all := ok_from_all (P := P) (w := w) (base := base) T H_from_all C_counted C_most_by_origin len_from_all (pure_from_all T)
  have C_mores := ok_mores (P := P) (w := w) (base := base) T H_mores C_counted C_most_kept len_mores (pure_mores T)
  have A_PLAIN_QUESTIONS : ∀ f sp, S_PLAIN_QUESTIONS K (⟨C_Ways, C_Session, cod, tab, a_PLAIN_CALLS, a_NUMBER_CALLS, a_PLAIN_QUESTIONS, a_NUMBER_QUESTIONS, a_ROW_QUESTIONS, f_neighbours, f_ways_to, f_further, f_count_beyond, f_first_front, f_front_behind, f_choices, f_count_kept, f_best_from, f_best_row, f_greatest_first, f_put_fire_back, f_is_place, f_is_under_way, f_catches, f_gone_on, f_counted, f_begin, f_join, f_drop, f_fire, f_each, f_save, f_turn, f_again, f_burns, f_saved, f_safe, f_state, f_ways_now, f_are_in_range, f_at_beginning, f_most_kept, f_most_by_origin, f_best, f_greedy, f_run, f_size, f_deep, f_level, f_kept, f_worst, f_from_all, f_mores, f_end_of_call, f_answer_of, f_answers⟩ : Locs) f sp → Held P w K mg base 32 f sp := by
    rintro f sp h
    rcases h with ⟨rfl, rfl⟩ | ⟨rfl, rfl⟩ | ⟨rfl, rfl⟩ | ⟨rfl, rfl⟩ | ⟨rfl, rfl⟩
    · exact held_of C_best T.g_best (by decide)
    · exact held_of C_greedy T.g_greedy (by decide)
    · exact held_of C_worst T.g_worst (by decide)
    · exact held_of C_from_all T.g_from_all (by decide)
    · exact held_of C_mores T.g_mores (by decide)
  have C_size := ok_size (P := P) (w := w) (base := base) T H_size C_is_place C_ways_now len_size (pure_size T)
  have C_deep := ok_deep (P := P) (w := w) (base := base) T H_deep C_is_place C_ways_now len_deep (pure_deep T)
  have C_level := ok_level (P := P) (w := w) (base := base) T H_level C_ways_now C_counted len_level (pure_level T)
  have A_NUMBER_QUESTIONS : ∀ f sp, S_NUMBER_QUESTIONS K (⟨C_Ways, C_Session, cod, tab, a_PLAIN_CALLS, a_NUMBER_CALLS, a_PLAIN_QUESTIONS, a_NUMBER_QUESTIONS, a_ROW_QUESTIONS, f_neighbours, f_ways_to, f_further, f_count_beyond, f_first_front, f_front_behind, f_choices, f_count_kept, f_best_from, f_best_row, f_greatest_first, f_put_fire_back, f_is_place, f_is_under_way, f_catches, f_gone_on, f_counted, f_begin, f_join, f_drop, f_fire, f_each, f_save, f_turn, f_again, f_burns, f_saved, f_safe, f_state, f_ways_now, f_are_in_range, f_at_beginning, f_most_kept, f_most_by_origin, f_best, f_greedy, f_run, f_size, f_deep, f_level, f_kept, f_worst, f_from_all, f_mores, f_end_of_call, f_answer_of, f_answers⟩ : Locs) f sp → Held P w K mg base 5 f sp := by
    rintro f sp h
    rcases h with ⟨rfl, rfl⟩ | ⟨rfl, rfl⟩ | ⟨rfl, rfl⟩
    · exact held_of C_size T.g_size (by decide)
    · exact held_of C_deep T.g_deep (by decide)
    · exact held_of C_level T.g_level (by decide)
  have C_are_in_range := ok_are_in_range (P := P) (w := w) (base := base) T H_are_in_range C_is_place len_are_in_range (pure_are_in_range T)
  have C_at_beginning := ok_at_beginning (P := P) (w := w) (base := base) T H_at_beginning C_Session_init C_put_fire_back len_at_beginning (pure_at_beginning T)
  have C_run := ok_run (P := P) (w := w) (base := base) T H_run C_are_in_range C_at_beginning C_turn C_save C_safe len_run (pure_run T)
  have C_count_beyond := ok_count_beyond (P := P) (w := w) (base := base) T H_count_beyond  len_count_beyond (pure_count_beyond T)
  have C_kept := ok_kept (P := P) (w := w) (base := base) T H_kept C_are_in_range C_count_beyond C_ways_now len_kept (pure_kept T)
  have A_ROW_QUESTIONS : ∀ f sp, S_ROW_QUESTIONS K (⟨C_Ways, C_Session, cod, tab, a_PLAIN_CALLS, a_NUMBER_CALLS, a_PLAIN_QUESTIONS, a_NUMBER_QUESTIONS, a_ROW_QUESTIONS, f_neighbours, f_ways_to, f_further, f_count_beyond, f_first_front, f_front_behind, f_choices, f_count_kept, f_best_from, f_best_row, f_greatest_first, f_put_fire_back, f_is_place, f_is_under_way, f_catches, f_gone_on, f_counted, f_begin, f_join, f_drop, f_fire, f_each, f_save, f_turn, f_again, f_burns, f_saved, f_safe, f_state, f_ways_now, f_are_in_range, f_at_beginning, f_most_kept, f_most_by_origin, f_best, f_greedy, f_run, f_size, f_deep, f_level, f_kept, f_worst, f_from_all, f_mores, f_end_of_call, f_answer_of, f_answers⟩ : Locs) f sp → Held P w K mg base 5 f sp := by
    rintro f sp h
    rcases h with ⟨rfl, rfl⟩ | ⟨rfl, rfl⟩
    · exact held_of C_run T.g_run (by decide)
    · exact held_of C_kept T.g_kept (by decide)
  have C_answer_of := ok_answer_of (P := P) (w := w) (base := base) T H_answer_of A_PLAIN_CALLS A_NUMBER_CALLS A_PLAIN_QUESTIONS A_NUMBER_QUESTIONS A_ROW_QUESTIONS len_answer_of (pure_answer_of T)
  exact fn_answers T D_answers C_Session_init C_end_of_call C_answer_of len_answers (pure_answers T)
-- THE LAST THEOREM: the goals in their order
abbrev lv_main : Nat := 34
end FS

open PySem PySem.W PyProof.Rows
set_option maxRecDepth 100000 in
set_option maxHeartbeats 8000000 in
theorem PySem.Challenge.cw_firesaved_s01_answers_holds : PySem.Challenge.rw_firesaved_s01_answers.Holds := by
  w_on; k_headS; (case hw => exact ⟨[.list [.int 0]], by decide +kernel, by decide +kernel⟩)
  k_fillS
  refine FS.walk_tab (r := PySem.Challenge.rw_firesaved_s01_answers) (k := FS.lv_main) (CX := L2.CX0) (ps := ["calls"]) (x := "greatest_first") (sp := FS.rowP) (by decide +kernel) rfl ⟨rfl, by decide, by decide⟩ ?R (fun w h Y => PySem.W.kIn_of Y) ?F ?S (fun _ _ _ _ z => z)
  case R => decide +kernel
  case F =>
    intro w mg fa h Y KX G hmg
    refine' FS.all_mk (cod := 99) (tab := 95) KX G hmg ?g_Ways ?g_Session ?in_Ways_init ?in_Session_init ?n_neighbours ?l_neighbours ?c_neighbours ?k_neighbours ?n_ways_to ?l_ways_to ?c_ways_to ?k_ways_to ?n_further ?l_further ?c_further ?k_further ?n_count_beyond ?l_count_beyond ?c_count_beyond ?k_count_beyond ?n_first_front ?l_first_front ?c_first_front ?k_first_front ?n_front_behind ?l_front_behind ?c_front_behind ?k_front_behind ?n_choices ?l_choices ?c_choices ?k_choices ?n_count_kept ?l_count_kept ?c_count_kept ?k_count_kept ?n_best_from ?l_best_from ?c_best_from ?k_best_from ?n_best_row ?l_best_row ?c_best_row ?k_best_row ?ht_tab ?np_tab ?n_greatest_first ?l_greatest_first ?c_greatest_first ?k_greatest_first ?n_put_fire_back ?l_put_fire_back ?c_put_fire_back ?k_put_fire_back ?n_is_place ?l_is_place ?c_is_place ?k_is_place ?n_is_under_way ?l_is_under_way ?c_is_under_way ?k_is_under_way ?n_catches ?l_catches ?c_catches ?k_catches ?n_gone_on ?l_gone_on ?c_gone_on ?k_gone_on ?n_counted ?l_counted ?c_counted ?k_counted ?n_begin ?l_begin ?c_begin ?k_begin ?n_join ?l_join ?c_join ?k_join ?n_drop ?l_drop ?c_drop ?k_drop ?n_fire ?l_fire ?c_fire ?k_fire ?n_each ?l_each ?c_each ?k_each ?n_save ?l_save ?c_save ?k_save ?n_turn ?l_turn ?c_turn ?k_turn ?n_again ?l_again ?c_again ?k_again ?n_burns ?l_burns ?c_burns ?k_burns ?n_saved ?l_saved ?c_saved ?k_saved ?n_safe ?l_safe ?c_safe ?k_safe ?n_state ?l_state ?c_state ?k_state ?n_ways_now ?l_ways_now ?c_ways_now ?k_ways_now ?n_are_in_range ?l_are_in_range ?c_are_in_range ?k_are_in_range ?n_at_beginning ?l_at_beginning ?c_at_beginning ?k_at_beginning ?n_most_kept ?l_most_kept ?c_most_kept ?k_most_kept ?n_most_by_origin ?l_most_by_origin ?c_most_by_origin ?k_most_by_origin ?n_best ?l_best ?c_best ?k_best ?n_greedy ?l_greedy ?c_greedy ?k_greedy ?n_run ?l_run ?c_run ?k_run ?n_size ?l_size ?c_size ?k_size ?n_deep ?l_deep ?c_deep ?k_deep ?n_level ?l_level ?c_level ?k_level ?n_kept ?l_kept ?c_kept ?k_kept ?n_worst ?l_worst ?c_worst ?k_worst ?n_from_all ?l_from_all ?c_from_all ?k_from_all ?n_mores ?l_mores ?c_mores ?k_mores ?n_end_of_call ?l_end_of_call ?c_end_of_call ?k_end_of_call ?n_answer_of ?l_answer_of ?c_answer_of ?k_answer_of ?n_answers ?l_answers ?c_answers ?k_answers ?fn_Ways_init ?l_Ways_init ?c_Ways_init ?fn_Session_init ?l_Session_init ?c_Session_init ?pg_Ways ?hd_Ways ?po_Ways ?mk_Ways ?kc_Ways ?sa_Ways ?na_Ways_toward ?na_Ways_depths ?na_Ways_sizes ?na_Ways_order ?pg_Session ?hd_Session ?po_Session ?mk_Session ?kc_Session ?sa_Session ?na_Session_joined ?na_Session_origin ?na_Session_each ?na_Session_used ?na_Session_burning ?na_Session_saved ?b_all ?b_any ?b_len ?b_list ?b_min ?b_range ?b_reversed ?b_sorted ?b_sum ?v_NO_SUCH_PLACE ?v_ONLY_ONE ?v_UNDER_WAY ?v_ALREADY_SO ?v_OUT_OF_RANGE ?v_TOO_MANY ?v_IT_BURNS ?v_MOST_PLACES ?v_PLAIN_CALLS ?l_PLAIN_CALLS ?y_PLAIN_CALLS ?v_NUMBER_CALLS ?l_NUMBER_CALLS ?y_NUMBER_CALLS ?v_PLAIN_QUESTIONS ?l_PLAIN_QUESTIONS ?y_PLAIN_QUESTIONS ?v_NUMBER_QUESTIONS ?l_NUMBER_QUESTIONS ?y_NUMBER_QUESTIONS ?v_ROW_QUESTIONS ?l_ROW_QUESTIONS ?y_ROW_QUESTIONS ?v_NOT_BEGUN ?v_BEGIN
    (case g_Ways => k_is)
    (case g_Session => k_is)
    (case in_Ways_init => k_is)
    (case in_Session_init => k_is)
    (case n_neighbours => k_is)
    (case l_neighbours => k_is)
    (case c_neighbours => k_is)
    (case k_neighbours => k_is)
    (case n_ways_to => k_is)
    (case l_ways_to => k_is)
    (case c_ways_to => k_is)
    (case k_ways_to => k_is)
    (case n_further => k_is)
    (case l_further => k_is)
    (case c_further => k_is)
    (case k_further => k_is)
    (case n_count_beyond => k_is)
    (case l_count_beyond => k_is)
    (case c_count_beyond => k_is)
    (case k_count_beyond => k_is)
    (case n_first_front => k_is)
    (case l_first_front => k_is)
    (case c_first_front => k_is)
    (case k_first_front => k_is)
    (case n_front_behind => k_is)
    (case l_front_behind => k_is)
    (case c_front_behind => k_is)
    (case k_front_behind => k_is)
    (case n_choices => k_is)
    (case l_choices => k_is)
    (case c_choices => k_is)
    (case k_choices => k_is)
    (case n_count_kept => k_is)
    (case l_count_kept => k_is)
    (case c_count_kept => k_is)
    (case k_count_kept => k_is)
    (case n_best_from => k_is)
    (case l_best_from => k_is)
    (case c_best_from => k_is)
    (case k_best_from => k_is)
    (case n_best_row => k_is)
    (case l_best_row => k_is)
    (case c_best_row => k_is)
    (case k_best_row => k_is)
    (case ht_tab => kernel_rfl)
    (case np_tab => kernel_rfl)
    (case n_greatest_first => k_is)
    (case l_greatest_first => k_is)
    (case c_greatest_first => k_is)
    (case k_greatest_first => k_is)
    (case n_put_fire_back => k_is)
    (case l_put_fire_back => k_is)
    (case c_put_fire_back => k_is)
    (case k_put_fire_back => k_is)
    (case n_is_place => k_is)
    (case l_is_place => k_is)
    (case c_is_place => k_is)
    (case k_is_place => k_is)
    (case n_is_under_way => k_is)
    (case l_is_under_way => k_is)
    (case c_is_under_way => k_is)
    (case k_is_under_way => k_is)
    (case n_catches => k_is)
    (case l_catches => k_is)
    (case c_catches => k_is)
    (case k_catches => k_is)
    (case n_gone_on => k_is)
    (case l_gone_on => k_is)
    (case c_gone_on => k_is)
    (case k_gone_on => k_is)
    (case n_counted => k_is)
    (case l_counted => k_is)
    (case c_counted => k_is)
    (case k_counted => k_is)
    (case n_begin => k_is)
    (case l_begin => k_is)
    (case c_begin => k_is)
    (case k_begin => k_is)
    (case n_join => k_is)
    (case l_join => k_is)
    (case c_join => k_is)
    (case k_join => k_is)
    (case n_drop => k_is)
    (case l_drop => k_is)
    (case c_drop => k_is)
    (case k_drop => k_is)
    (case n_fire => k_is)
    (case l_fire => k_is)
    (case c_fire => k_is)
    (case k_fire => k_is)
    (case n_each => k_is)
    (case l_each => k_is)
    (case c_each => k_is)
    (case k_each => k_is)
    (case n_save => k_is)
    (case l_save => k_is)
    (case c_save => k_is)
    (case k_save => k_is)
    (case n_turn => k_is)
    (case l_turn => k_is)
    (case c_turn => k_is)
    (case k_turn => k_is)
    (case n_again => k_is)
    (case l_again => k_is)
    (case c_again => k_is)
    (case k_again => k_is)
    (case n_burns => k_is)
    (case l_burns => k_is)
    (case c_burns => k_is)
    (case k_burns => k_is)
    (case n_saved => k_is)
    (case l_saved => k_is)
    (case c_saved => k_is)
    (case k_saved => k_is)
    (case n_safe => k_is)
    (case l_safe => k_is)
    (case c_safe => k_is)
    (case k_safe => k_is)
    (case n_state => k_is)
    (case l_state => k_is)
    (case c_state => k_is)
    (case k_state => k_is)
    (case n_ways_now => k_is)
    (case l_ways_now => k_is)
    (case c_ways_now => k_is)
    (case k_ways_now => k_is)
    (case n_are_in_range => k_is)
    (case l_are_in_range => k_is)
    (case c_are_in_range => k_is)
    (case k_are_in_range => k_is)
    (case n_at_beginning => k_is)
    (case l_at_beginning => k_is)
    (case c_at_beginning => k_is)
    (case k_at_beginning => k_is)
    (case n_most_kept => k_is)
    (case l_most_kept => k_is)
    (case c_most_kept => k_is)
    (case k_most_kept => k_is)
    (case n_most_by_origin => k_is)
    (case l_most_by_origin => k_is)
    (case c_most_by_origin => k_is)
    (case k_most_by_origin => k_is)
    (case n_best => k_is)
    (case l_best => k_is)
    (case c_best => k_is)
    (case k_best => k_is)
    (case n_greedy => k_is)
    (case l_greedy => k_is)
    (case c_greedy => k_is)
    (case k_greedy => k_is)
    (case n_run => k_is)
    (case l_run => k_is)
    (case c_run => k_is)
    (case k_run => k_is)
    (case n_size => k_is)
    (case l_size => k_is)
    (case c_size => k_is)
    (case k_size => k_is)
    (case n_deep => k_is)
    (case l_deep => k_is)
    (case c_deep => k_is)
    (case k_deep => k_is)
    (case n_level => k_is)
    (case l_level => k_is)
    (case c_level => k_is)
    (case k_level => k_is)
    (case n_kept => k_is)
    (case l_kept => k_is)
    (case c_kept => k_is)
    (case k_kept => k_is)
    (case n_worst => k_is)
    (case l_worst => k_is)
    (case c_worst => k_is)
    (case k_worst => k_is)
    (case n_from_all => k_is)
    (case l_from_all => k_is)
    (case c_from_all => k_is)
    (case k_from_all => k_is)
    (case n_mores => k_is)
    (case l_mores => k_is)
    (case c_mores => k_is)
    (case k_mores => k_is)
    (case n_end_of_call => k_is)
    (case l_end_of_call => k_is)
    (case c_end_of_call => k_is)
    (case k_end_of_call => k_is)
    (case n_answer_of => k_is)
    (case l_answer_of => k_is)
    (case c_answer_of => k_is)
    (case k_answer_of => k_is)
    (case n_answers => k_is)
    (case l_answers => k_is)
    (case c_answers => k_is)
    (case k_answers => k_is)
    (case fn_Ways_init => k_is)
    (case l_Ways_init => k_is)
    (case c_Ways_init => k_is)
    (case fn_Session_init => k_is)
    (case l_Session_init => k_is)
    (case c_Session_init => k_is)
    (case pg_Ways => k_is)
    (case hd_Ways => k_is)
    (case po_Ways => k_is)
    (case mk_Ways => k_is)
    (case kc_Ways => k_is)
    (case sa_Ways => k_is)
    (case na_Ways_toward => k_is)
    (case na_Ways_depths => k_is)
    (case na_Ways_sizes => k_is)
    (case na_Ways_order => k_is)
    (case pg_Session => k_is)
    (case hd_Session => k_is)
    (case po_Session => k_is)
    (case mk_Session => k_is)
    (case kc_Session => k_is)
    (case sa_Session => k_is)
    (case na_Session_joined => k_is)
    (case na_Session_origin => k_is)
    (case na_Session_each => k_is)
    (case na_Session_used => k_is)
    (case na_Session_burning => k_is)
    (case na_Session_saved => k_is)
    (case b_all => k_is)
    (case b_any => k_is)
    (case b_len => k_is)
    (case b_list => k_is)
    (case b_min => k_is)
    (case b_range => k_is)
    (case b_reversed => k_is)
    (case b_sorted => k_is)
    (case b_sum => k_is)
    (case v_NO_SUCH_PLACE => k_is)
    (case v_ONLY_ONE => k_is)
    (case v_UNDER_WAY => k_is)
    (case v_ALREADY_SO => k_is)
    (case v_OUT_OF_RANGE => k_is)
    (case v_TOO_MANY => k_is)
    (case v_IT_BURNS => k_is)
    (case v_MOST_PLACES => k_is)
    (case v_PLAIN_CALLS => k_is)
    (case l_PLAIN_CALLS => k_is)
    (case y_PLAIN_CALLS => rfl)
    (case v_NUMBER_CALLS => k_is)
    (case l_NUMBER_CALLS => k_is)
    (case y_NUMBER_CALLS => rfl)
    (case v_PLAIN_QUESTIONS => k_is)
    (case l_PLAIN_QUESTIONS => k_is)
    (case y_PLAIN_QUESTIONS => rfl)
    (case v_NUMBER_QUESTIONS => k_is)
    (case l_NUMBER_QUESTIONS => k_is)
    (case y_NUMBER_QUESTIONS => rfl)
    (case v_ROW_QUESTIONS => k_is)
    (case l_ROW_QUESTIONS => k_is)
    (case y_ROW_QUESTIONS => rfl)
    (case v_NOT_BEGUN => k_is)
    (case v_BEGIN => k_is)
  case S =>
    intro K T H xs a hO hT hwi hask hx
    cases hx with
    | cons h1 h2 =>
      cases h2
      cases h1 with
      | lst hs ha =>
        have e := L2.ints_dw a.1 _ ha
        subst e
        exact ⟨_, a.1, rfl, FS.tab_here, FS.argAt_tab hO hT hs, hask, fun H' p hp => .lst (L2.SqL.of hp) (L2.dw_ints _)⟩
#print axioms PySem.Challenge.cw_firesaved_s01_answers_holds
