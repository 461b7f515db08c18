import PyProof.Rows.All
import Wide.All
import OpenK.AllK
import Wide.FinOn
import PyProof.EqAt
import PyProof.EqKinds
import PyProof.TupleCall
import PyProof.CodeObj
import KE.KLam
import KE.KMinKey
import HandS.Base
import HandS.Call
import HandS.List
import HandS.Comp
import HandS.Text
import HandS.Exc
import HandS.Codes
import HandS.TryOnly
import HandS.Words
import HandS.Lambda
import HandS.Nested
import HandS.OwnEq
import Open.SpecLaws
import KE.OsGo
import HandS.Ends
import HandS.Spec
import KE.KNest
import KE.KNestM
import HandS.ForSpec
import HandS.Defaults
import HandS.HeadHook1
import HandS.HeadHook2
import HandS.HeadHook3
import HandS.HeadHook4
import HandS.ForMost
import HandS.Walk
import HandS.Conv
import HandS.CallRecv
import PySem.Challenge.RW_treeofcuts_s01_answers
set_option Elab.async false
set_option linter.all false
namespace Mk
open Km361 (Line Net Tree at_ PLACES LINES MOST)
/-! the mathematics: the lines as they come in a dict (number, line, where its tuple lies), against the net -/
abbrev Dn := List (Nat × Line × Nat)
def look : Dn → Nat → Option Line
  | [], _ => none
  | p :: r, k => if p.1 = k then some p.2.1 else look r k
def nt (D : Dn) : Net := ⟨(List.range 24).map (look D)⟩
def wgt (side : Nat) (l : Line) : Nat := if side.testBit l.a == side.testBit l.b then 0 else l.most
def edgeD (D : Dn) (side : Nat) : Nat := (D.map fun p => wgt side p.2.1).sum
def dropD (D : Dn) (k : Nat) : Dn := D.filter fun p => decide (p.1 ≠ k)
def setD (D : Dn) (k : Nat) (l : Line) (t : Nat) : Dn := D.map fun p => if p.1 = k then (k, l, t) else p
structure Good (D : Dn) : Prop where
  nd : (D.map (·.1)).Nodup
  lt : ∀ p ∈ D, p.1 < 24 ∧ p.2.1.a < 8 ∧ p.2.1.b < 8 ∧ p.2.1.most ≤ 1000
/-! ### sums -/
theorem foldl_add (l : List Nat) : ∀ a, l.foldl (· + ·) a = a + l.sum := by
  induction l with
  | nil => intro a; simp
  | cons x r ih => intro a; rw [List.foldl_cons, ih, List.sum_cons]; omega
theorem sum_eq (l : List Nat) : Km361.sum l = l.sum := by
  unfold Km361.sum
  rw [foldl_add]
  omega
theorem sum_put (k0 c : Nat) (h : Nat → Nat) (h0 : h k0 = 0) : ∀ n, ((List.range n).map fun k => if k0 = k then c else h k).sum = (if k0 < n then c else 0) + ((List.range n).map h).sum := by
  intro n
  induction n with
  | zero => simp
  | succ n ih =>
    rw [List.range_succ, List.map_append, List.map_append, List.sum_append, List.sum_append, ih]
    simp only [List.map_cons, List.map_nil, List.sum_cons, List.sum_nil]
    by_cases e : k0 = n
    · subst e
      rw [if_pos rfl, if_neg (Nat.lt_irrefl _), if_pos (Nat.lt_succ_self _), h0]
      omega
    · rw [if_neg e]
      by_cases l : k0 < n
      · rw [if_pos l, if_pos (Nat.lt_succ_of_lt l)]
        omega
      · rw [if_neg l, if_neg (by omega)]
        omega
theorem look_none {D : Dn} {k : Nat} (h : k ∉ D.map (·.1)) : look D k = none := by
  induction D with
  | nil => rfl
  | cons p r ih =>
    have h1 : p.1 ≠ k := fun e => h (by rw [List.map_cons]; exact e ▸ List.mem_cons_self ..)
    have h2 : k ∉ r.map (·.1) := fun m => h (by rw [List.map_cons]; exact List.mem_cons_of_mem _ m)
    show (if p.1 = k then some p.2.1 else look r k) = none
    rw [if_neg h1, ih h2]
theorem look_isSome {D : Dn} {k : Nat} : (look D k).isSome = true ↔ k ∈ D.map (·.1) := by
  induction D with
  | nil => simp [look]
  | cons p r ih =>
    show (if p.1 = k then some p.2.1 else look r k).isSome = true ↔ _
    by_cases e : p.1 = k
    · rw [if_pos e]
      simp [e]
    · rw [if_neg e, ih, List.map_cons, List.mem_cons]
      constructor
      · exact .inr
      · rintro (z | z)
        · exact absurd z.symm e
        · exact z
theorem good_tail {p : Nat × Line × Nat} {r : Dn} (g : Good (p :: r)) : Good r ∧ p.1 ∉ r.map (·.1) := by
  have nd := g.nd
  rw [List.map_cons, List.nodup_cons] at nd
  exact ⟨⟨nd.2, fun q hq => g.lt q (List.mem_cons_of_mem _ hq)⟩, nd.1⟩
theorem sum24 (f : Line → Nat) : ∀ {D : Dn}, Good D → ((List.range 24).map fun k => ((look D k).map f).getD 0).sum = (D.map fun p => f p.2.1).sum
  | [], _ => by
    have e : ((List.range 24).map fun k => ((look [] k).map f).getD 0) = (List.range 24).map fun _ => 0 := rfl
    have e2 : ((List.range 24).map fun _ => 0).sum = 0 := by decide
    rw [e, e2]
    rfl
  | p :: r, g => by
    obtain ⟨g2, hn⟩ := good_tail g
    have e : ((List.range 24).map fun k => ((look (p :: r) k).map f).getD 0) = (List.range 24).map fun k => if p.1 = k then f p.2.1 else ((look r k).map f).getD 0 := by
      apply List.map_congr_left
      intro k _
      show ((if p.1 = k then some p.2.1 else look r k).map f).getD 0 = _
      by_cases z : p.1 = k
      · rw [if_pos z, if_pos z]
        rfl
      · rw [if_neg z, if_neg z]
    have hp := (g.lt p (List.mem_cons_self ..)).1
    rw [e, sum_put _ _ _ (by rw [look_none hn]; rfl), if_pos hp, sum24 f g2, List.map_cons, List.sum_cons]
theorem all_sum (g : Line → Nat) : ∀ l : List (Option Line), ((l.filterMap fun x => x).map g).sum = (l.map fun o => (o.map g).getD 0).sum
  | [] => rfl
  | none :: r => by
    have ih := all_sum g r
    simpa using ih
  | some x :: r => by
    have ih := all_sum g r
    simp only [List.filterMap_cons, List.map_cons, List.sum_cons] at ih ⊢
    rw [ih]
    rfl
theorem nt_edge {D : Dn} (g : Good D) (side : Nat) : (nt D).edge side = edgeD D side := by
  unfold Net.edge Net.all
  rw [sum_eq]
  have e := all_sum (wgt side) (nt D).lines
  have e2 : ((nt D).lines.map fun o => (o.map (wgt side)).getD 0) = (List.range 24).map fun k => ((look D k).map (wgt side)).getD 0 := by
    show (((List.range 24).map (look D)).map fun o => (o.map (wgt side)).getD 0) = _
    rw [List.map_map]
    rfl
  rw [e2, sum24 _ g] at e
  exact e
/-! ### the net's lines -/
theorem look_big {D : Dn} (g : Good D) {k : Nat} (h : ¬ k < 24) : look D k = none := look_none fun m => by
  obtain ⟨p, hp, e⟩ := List.mem_map.mp m
  have := (g.lt p hp).1
  omega
theorem nt_line {D : Dn} (g : Good D) (k : Nat) : (nt D).line k = look D k := by
  show ((List.range 24).map (look D)).getD k none = look D k
  rw [List.getD_eq_getElem?_getD, List.getElem?_map]
  by_cases h : k < 24
  · rw [List.getElem?_range h]
    rfl
  · rw [List.getElem?_eq_none (by rw [List.length_range]; omega), look_big g h]
    rfl
theorem nt_lines_len (D : Dn) : (nt D).lines.length = 24 := by
  show ((List.range 24).map (look D)).length = 24
  rw [List.length_map, List.length_range]
theorem net_ext {n m : Net} (h : n.lines = m.lines) : n = m := by
  cases n
  cases m
  have h : _ = _ := h
  subst h
  rfl
theorem nt_set {D D' : Dn} {k : Nat} {o : Option Line} (h : ∀ j, look D' j = if j = k then o else look D j) : nt D' = ⟨(nt D).lines.set k o⟩ := by
  refine net_ext ?_
  show (List.range 24).map (look D') = ((List.range 24).map (look D)).set k o
  apply List.ext_getElem?
  intro i
  rw [List.getElem?_map, List.getElem?_set, List.getElem?_map, List.length_map, List.length_range]
  by_cases hi : i < 24
  · rw [List.getElem?_range hi]
    by_cases e : k = i
    · subst e
      rw [if_pos rfl, if_pos hi]
      show some (look D' k) = some o
      rw [h, if_pos rfl]
    · rw [if_neg e]
      show some (look D' i) = some (look D i)
      rw [h, if_neg fun z => e z.symm]
  · rw [List.getElem?_eq_none (by rw [List.length_range]; omega)]
    by_cases e : k = i
    · subst e
      rw [if_pos rfl, if_neg hi]
      rfl
    · rw [if_neg e]
      rfl
theorem look_snoc {D : Dn} {k : Nat} {l : Line} {t : Nat} (h : look D k = none) : ∀ j, look (D ++ [(k, l, t)]) j = if j = k then some l else look D j := by
  intro j
  induction D with
  | nil =>
    show (if k = j then some l else look [] j) = _
    by_cases e : k = j
    · rw [if_pos e, if_pos e.symm]
    · rw [if_neg e, if_neg fun z => e z.symm]
  | cons p r ih =>
    have h : (if p.1 = k then some p.2.1 else look r k) = none := h
    have hp : p.1 ≠ k := fun e => by
      rw [if_pos e] at h
      cases h
    rw [if_neg hp] at h
    show (if p.1 = j then some p.2.1 else look (r ++ [(k, l, t)]) j) = if j = k then some l else (if p.1 = j then some p.2.1 else look r j)
    rw [ih h]
    by_cases e : p.1 = j
    · have e2 : ¬ j = k := fun z => hp (e.trans z)
      rw [if_pos e, if_neg e2, if_pos e]
    · rw [if_neg e, if_neg e]
theorem look_drop (D : Dn) (k : Nat) : ∀ j, look (dropD D k) j = if j = k then none else look D j := by
  intro j
  induction D with
  | nil =>
    show none = if j = k then none else none
    by_cases e : j = k
    · rw [if_pos e]
    · rw [if_neg e]
  | cons p r ih =>
    unfold dropD at ih ⊢
    rw [List.filter_cons]
    by_cases e : p.1 = k
    · rw [if_neg (by simp [e]), ih]
      by_cases e2 : j = k
      · rw [if_pos e2, if_pos e2]
      · rw [if_neg e2, if_neg e2]
        show look r j = if p.1 = j then _ else _
        rw [if_neg fun z => e2 (z.symm.trans e)]
    · rw [if_pos (by simp [e])]
      show (if p.1 = j then some p.2.1 else look (r.filter _) j) = if j = k then none else (if p.1 = j then some p.2.1 else look r j)
      rw [ih]
      by_cases e2 : p.1 = j
      · rw [if_pos e2, if_neg (fun z => e (e2.trans z)), if_pos e2]
      · rw [if_neg e2, if_neg e2]
theorem look_set {D : Dn} {k : Nat} {l : Line} {t : Nat} (h : (look D k).isSome = true) : ∀ j, look (setD D k l t) j = if j = k then some l else look D j := by
  intro j
  induction D with
  | nil => cases h
  | cons p r ih =>
    have h : (if p.1 = k then some p.2.1 else look r k).isSome = true := h
    show (if (if p.1 = k then (k, l, t) else p).1 = j then some (if p.1 = k then (k, l, t) else p).2.1 else look (setD r k l t) j) = if j = k then some l else (if p.1 = j then some p.2.1 else look r j)
    by_cases e : p.1 = k
    · rw [if_pos e]
      show (if k = j then some l else look (setD r k l t) j) = _
      by_cases e2 : k = j
      · rw [if_pos e2, if_pos e2.symm]
      · rw [if_neg e2, if_neg fun z => e2 z.symm, if_neg fun z => e2 (e.symm.trans z)]
        by_cases h2 : (look r k).isSome = true
        · rw [ih h2, if_neg fun z => e2 z.symm]
        · have nk : k ∉ r.map (·.1) := fun m => h2 (look_isSome.mpr m)
          have es : setD r k l t = r := by
            unfold setD
            have : ∀ q ∈ r, (if q.1 = k then (k, l, t) else q) = id q := fun q hq => by
              rw [if_neg fun z => nk (List.mem_map.mpr ⟨q, hq, z⟩)]
              rfl
            rw [List.map_congr_left this, List.map_id]
          rw [es]
    · rw [if_neg e] at h ⊢
      rw [ih h]
      by_cases e2 : p.1 = j
      · rw [if_pos e2, if_neg (fun z => e (e2.trans z)), if_pos e2]
      · rw [if_neg e2, if_neg e2]
theorem good_nil : Good [] := ⟨List.nodup_nil, fun p hp => absurd hp (by simp)⟩
theorem nt_nil : nt [] = Km361.fresh := net_ext rfl
theorem good_snoc {D : Dn} (g : Good D) {k : Nat} {l : Line} {t : Nat} (h : look D k = none) (hk : k < 24) (h1 : l.a < 8) (h2 : l.b < 8) (h3 : l.most ≤ 1000) : Good (D ++ [(k, l, t)]) := by
  refine ⟨?_, fun p hp => ?_⟩
  · rw [List.map_append, List.nodup_append]
    refine ⟨g.nd, by simp, fun a ha b hb => ?_⟩
    simp only [List.map_cons, List.map_nil, List.mem_singleton] at hb
    subst hb
    intro e
    subst e
    have := look_isSome.mpr ha
    rw [h] at this
    cases this
  · rcases List.mem_append.mp hp with m | m
    · exact g.lt p m
    · rw [List.mem_singleton.mp m]
      exact ⟨hk, h1, h2, h3⟩
theorem good_drop {D : Dn} (g : Good D) (k : Nat) : Good (dropD D k) :=
  ⟨g.nd.sublist ((List.filter_sublist ..).map _), fun p hp => g.lt p (List.mem_filter.mp hp).1⟩
theorem setD_keys (D : Dn) (k : Nat) (l : Line) (t : Nat) : (setD D k l t).map (·.1) = D.map (·.1) := by
  unfold setD
  rw [List.map_map]
  apply List.map_congr_left
  intro p _
  show (if p.1 = k then (k, l, t) else p).1 = p.1
  by_cases e : p.1 = k
  · rw [if_pos e, e]
  · rw [if_neg e]
theorem good_set {D : Dn} (g : Good D) {k : Nat} {l : Line} {t : Nat} (h1 : l.a < 8) (h2 : l.b < 8) (h3 : l.most ≤ 1000) : Good (setD D k l t) := by
  refine ⟨by rw [setD_keys]; exact g.nd, fun p hp => ?_⟩
  obtain ⟨q, hq, e⟩ := List.mem_map.mp hp
  have hq' := g.lt q hq
  by_cases z : q.1 = k
  · rw [if_pos z] at e
    rw [← e]
    exact ⟨by rw [← z]; exact hq'.1, h1, h2, h3⟩
  · rw [if_neg z] at e
    rw [← e]
    exact hq'
theorem look_good {D : Dn} (g : Good D) {k : Nat} {l : Line} (h : look D k = some l) : k < 24 ∧ l.a < 8 ∧ l.b < 8 ∧ l.most ≤ 1000 := by
  induction D with
  | nil => cases h
  | cons p r ih =>
    have h : (if p.1 = k then some p.2.1 else look r k) = some l := h
    by_cases e : p.1 = k
    · rw [if_pos e] at h
      cases h
      rw [← e]
      exact g.lt p (List.mem_cons_self ..)
    · rw [if_neg e] at h
      exact ih (good_tail g).1 h
/-! ### how many lines there are; the least number that's free -/
theorem count24 {D : Dn} (g : Good D) : ((List.range 24).map fun k => ((look D k).map fun _ => 1).getD 0).sum = D.length := by
  rw [sum24 (fun _ => 1) g]
  induction D with
  | nil => rfl
  | cons p r ih =>
    rw [List.map_cons, List.sum_cons, ih (good_tail g).1, List.length_cons]
    omega
theorem sum_le_one (f : Nat → Nat) (h : ∀ k, f k ≤ 1) : ∀ n, ((List.range n).map f).sum ≤ n := by
  intro n
  induction n with
  | zero => simp
  | succ n ih =>
    rw [List.range_succ, List.map_append, List.sum_append]
    have := h n
    simp only [List.map_cons, List.map_nil, List.sum_cons, List.sum_nil]
    omega
theorem sum_full (f : Nat → Nat) (h : ∀ k, f k ≤ 1) : ∀ n, ((List.range n).map f).sum = n → ∀ k, k < n → f k = 1 := by
  intro n
  induction n with
  | zero => intro _ k hk; omega
  | succ n ih =>
    intro e k hk
    rw [List.range_succ, List.map_append, List.sum_append] at e
    simp only [List.map_cons, List.map_nil, List.sum_cons, List.sum_nil] at e
    have h1 := sum_le_one f h n
    have h2 := h n
    by_cases z : k = n
    · subst z
      omega
    · exact ih (by omega) k (by omega)
theorem one_of (D : Dn) (k : Nat) : ((look D k).map fun _ => 1).getD 0 ≤ 1 := by
  cases look D k <;> simp
theorem len_le {D : Dn} (g : Good D) : D.length ≤ 24 := by
  rw [← count24 g]
  exact sum_le_one _ (one_of D) 24
theorem full_all {D : Dn} (g : Good D) (h : 24 ≤ D.length) : ∀ k, k < 24 → (look D k).isSome = true := by
  intro k hk
  have e := sum_full _ (one_of D) 24 (by rw [count24 g]; have := len_le g; omega) k hk
  cases z : look D k with
  | none => rw [z] at e; cases e
  | some l => rfl
theorem some_free {D : Dn} (g : Good D) (h : D.length < 24) : ∃ k, k < 24 ∧ look D k = none := by
  refine Classical.byContradiction fun c => ?_
  have all : ∀ k, k < 24 → ((look D k).map fun _ => 1).getD 0 = 1 := fun k hk => by
    cases z : look D k with
    | none => exact absurd ⟨k, hk, z⟩ c
    | some l => rfl
  have e : ((List.range 24).map fun k => ((look D k).map fun _ => 1).getD 0) = (List.range 24).map fun _ => 1 := List.map_congr_left fun k hk => all k (List.mem_range.mp hk)
  have e2 := count24 g
  rw [e] at e2
  have e3 : ((List.range 24).map fun _ => 1).sum = 24 := by decide
  omega
theorem free_none {D : Dn} (g : Good D) (h : 24 ≤ D.length) : (nt D).free = none := by
  unfold Net.free
  rw [List.find?_eq_none]
  intro k hk
  rw [nt_line g]
  have := full_all g h k (List.mem_range.mp hk)
  cases z : look D k with
  | none => rw [z] at this; cases this
  | some l => simp
theorem find_range (p : Nat → Bool) (k : Nat) : ∀ n, k < n → p k = true → (∀ j, j < k → p j = false) → (List.range n).find? p = some k := by
  intro n
  induction n with
  | zero => intro h; omega
  | succ n ih =>
    intro hk hp hj
    rw [List.range_succ, List.find?_append]
    by_cases e : k = n
    · subst e
      have : (List.range k).find? p = none := List.find?_eq_none.mpr fun j hj' => by rw [hj j (List.mem_range.mp hj')]; simp
      rw [this]
      simp [hp]
    · rw [ih (by omega) hp hj]
      rfl
theorem free_some {D : Dn} (g : Good D) {k : Nat} (hk : k < 24) (h : look D k = none) (hj : ∀ j, j < k → (look D j).isSome = true) : (nt D).free = some k := by
  unfold Net.free
  refine find_range _ k 24 hk ?_ fun j hj' => ?_
  · rw [nt_line g, h]
    rfl
  · rw [nt_line g]
    have := hj j hj'
    cases z : look D j with
    | none => rw [z] at this; cases this
    | some l => rfl
/-! ### edges are small -/
theorem edgeD_le {D : Dn} (g : Good D) (side : Nat) : edgeD D side ≤ 24000 := by
  have h : ∀ D : Dn, Good D → edgeD D side ≤ D.length * 1000 := by
    intro D
    induction D with
    | nil => intro _; exact Nat.le_refl _
    | cons p r ih =>
      intro g
      have h1 := ih (good_tail g).1
      have h2 := (g.lt p (List.mem_cons_self ..)).2.2.2
      unfold edgeD at h1 ⊢
      rw [List.map_cons, List.sum_cons, List.length_cons]
      have h3 : wgt side p.2.1 ≤ 1000 := by
        unfold wgt
        split
        · omega
        · exact h2
      omega
  have h1 := h D g
  have h2 := len_le g
  omega
/-! ### the least of some sides -/
/-- n is the least of S by e, the first of these -/
structure Least (e : Nat → Nat) (S : Nat → Prop) (n : Nat) : Prop where
  mem : S n
  le : ∀ m, S m → e n ≤ e m
  first : ∀ m, S m → m < n → e n < e m
theorem Least.uniq {e : Nat → Nat} {S : Nat → Prop} {n m : Nat} (a : Least e S n) (b : Least e S m) : n = m := by
  have h1 := a.le m b.mem
  have h2 := b.le n a.mem
  rcases Nat.lt_trichotomy n m with h | h | h
  · have := b.first n a.mem h
    omega
  · exact h
  · have := a.first m b.mem h
    omega
theorem fold_least (e : Nat → Nat) (P : Nat → Prop) [DecidablePred P] (x0 : Nat) (hP : P x0) (h0 : ∀ s, P s → ¬ s < x0) : ∀ k, P ((List.range k).foldl (fun x s => if P s ∧ e s < e x then s else x) x0) ∧
    (∀ s, P s → s < k → e ((List.range k).foldl (fun x s => if P s ∧ e s < e x then s else x) x0) ≤ e s) ∧
    (∀ s, P s → s < (List.range k).foldl (fun x s => if P s ∧ e s < e x then s else x) x0 → e ((List.range k).foldl (fun x s => if P s ∧ e s < e x then s else x) x0) < e s) ∧
    ((List.range k).foldl (fun x s => if P s ∧ e s < e x then s else x) x0 = x0 ∨ (List.range k).foldl (fun x s => if P s ∧ e s < e x then s else x) x0 < k) := by
  intro k
  induction k with
  | zero => exact ⟨hP, fun s _ h => by omega, fun s hs h => absurd h (h0 s hs), .inl rfl⟩
  | succ k ih =>
    rw [List.range_succ, List.foldl_append]
    simp only [List.foldl_cons, List.foldl_nil]
    generalize (List.range k).foldl (fun x s => if P s ∧ e s < e x then s else x) x0 = r at ih
    obtain ⟨i1, i2, i3, i4⟩ := ih
    by_cases c : P k ∧ e k < e r
    · rw [if_pos c]
      refine ⟨c.1, fun s hs h => ?_, fun s hs h => ?_, .inr (Nat.lt_succ_self _)⟩
      · by_cases z : s = k
        · rw [z]
          exact Nat.le_refl _
        · have := i2 s hs (by omega)
          omega
      · have := i2 s hs h
        omega
    · rw [if_neg c]
      refine ⟨i1, fun s hs h => ?_, i3, i4.imp id fun z => by omega⟩
      by_cases z : s = k
      · subst z
        by_cases q : e s < e r
        · exact absurd ⟨hs, q⟩ c
        · omega
      · exact i2 s hs (by omega)
theorem bit_le {s a : Nat} (h : s.testBit a = true) : ¬ s < 2 ^ a := fun z => by
  rw [Nat.testBit_lt_two_pow z] at h
  cases h
def inCut (a b s : Nat) : Prop := s.testBit a = true ∧ s.testBit b = false ∧ s < 256
theorem side_least {n : Net} {a b : Nat} (ha : a < 8) (hb : b < 8) (hab : a ≠ b) : Least n.edge (inCut a b) (n.side a b) := by
  have h := fold_least n.edge (fun s => s.testBit a = true ∧ s.testBit b = false) (2 ^ a) ⟨Nat.testBit_two_pow_self, Nat.testBit_two_pow_of_ne hab⟩ (fun s hs => bit_le hs.1) 256
  have e : n.side a b = (List.range 256).foldl (fun x s => if (s.testBit a = true ∧ s.testBit b = false) ∧ n.edge s < n.edge x then s else x) (2 ^ a) := by
    unfold Net.side
    show (List.range 256).foldl _ _ = _
    congr 1
    funext x s
    by_cases c : s.testBit a = true ∧ s.testBit b = false ∧ n.edge s < n.edge x
    · rw [if_pos c, if_pos ⟨⟨c.1, c.2.1⟩, c.2.2⟩]
    · rw [if_neg c, if_neg fun z => c ⟨z.1.1, z.1.2, z.2⟩]
  rw [← e] at h
  obtain ⟨h1, h2, h3, h4⟩ := h
  have ha2 : 2 ^ a ≤ 2 ^ 7 := Nat.pow_le_pow_right (by decide) (by omega)
  refine ⟨⟨h1.1, h1.2, ?_⟩, fun m hm => h2 m ⟨hm.1, hm.2.1⟩ hm.2.2, fun m hm hl => h3 m ⟨hm.1, hm.2.1⟩ hl⟩
  rcases h4 with z | z
  · rw [z]
    have : (2 : Nat) ^ 7 < 256 := by decide
    omega
  · exact z
theorem weak_least {n : Net} : Least n.edge (fun s => 0 < s ∧ s < 255) n.weakest := by
  have h := fold_least n.edge (fun s => 0 < s) 1 (by decide) (fun s hs => by omega) 255
  have e : n.weakest = (List.range 255).foldl (fun x s => if 0 < s ∧ n.edge s < n.edge x then s else x) 1 := rfl
  rw [← e] at h
  obtain ⟨h1, h2, h3, h4⟩ := h
  refine ⟨⟨h1, ?_⟩, fun m hm => h2 m hm.1 hm.2, fun m hm hl => h3 m hm.1 hl⟩
  rcases h4 with z | z
  · rw [z]
    decide
  · exact z
end Mk
set_option Elab.async false
set_option linter.all false
namespace Mk
open Km361 (Line Net Tree at_ PLACES LINES MOST)
/-! ### the tree as it grows -/
def growK (l : List Nat) (s p x k : Nat) : List Nat := (List.range 8).map fun i => if s < i ∧ i < s + 1 + k ∧ x.testBit i = true ∧ at_ l i = p then s else at_ l i
theorem at_get {l : List Nat} {i : Nat} (h : i < l.length) : l[i]? = some (at_ l i) := by
  unfold at_
  rw [List.getD_eq_getElem?_getD, List.getElem?_eq_getElem h]
  rfl
theorem at_of {l : List Nat} {i v : Nat} (h : l[i]? = some v) : at_ l i = v := by
  unfold at_
  rw [List.getD_eq_getElem?_getD, h]
  rfl
theorem at_range {f : Nat → Nat} {i : Nat} (h : i < 8) : at_ ((List.range 8).map f) i = f i := by
  refine at_of ?_
  rw [List.getElem?_map, List.getElem?_range h]
  rfl
theorem growK_len (l : List Nat) (s p x k : Nat) : (growK l s p x k).length = 8 := by
  unfold growK
  rw [List.length_map, List.length_range]
theorem growK_zero {l : List Nat} (hl : l.length = 8) (s p x : Nat) : growK l s p x 0 = l := by
  unfold growK
  apply List.ext_getElem?
  intro i
  rw [List.getElem?_map]
  by_cases h : i < 8
  · rw [List.getElem?_range h, at_get (by omega)]
    show some _ = some _
    dsimp only
    rw [if_neg (by omega)]
  · rw [List.getElem?_eq_none (by rw [List.length_range]; omega), List.getElem?_eq_none (by omega)]
    rfl
theorem growK_at {l : List Nat} {s p x k : Nat} (h : s + 1 + k < 8) : at_ (growK l s p x k) (s + 1 + k) = at_ l (s + 1 + k) := by
  unfold growK
  rw [at_range h, if_neg (by omega)]
theorem growK_put {l : List Nat} {s p x k : Nat} (h : s + 1 + k < 8) (hx : x.testBit (s + 1 + k) = true) (hp : at_ l (s + 1 + k) = p) : growK l s p x (k + 1) = (growK l s p x k).set (s + 1 + k) s := by
  apply List.ext_getElem?
  intro i
  rw [List.getElem?_set, growK_len]
  by_cases e : s + 1 + k = i
  · rw [if_pos e, if_pos h]
    unfold growK
    subst e
    rw [List.getElem?_map, List.getElem?_range h]
    show some _ = some _
    dsimp only
    rw [if_pos ⟨by omega, by omega, hx, hp⟩]
  · rw [if_neg e]
    unfold growK
    rw [List.getElem?_map, List.getElem?_map]
    by_cases h8 : i < 8
    · rw [List.getElem?_range h8]
      show some _ = some _
      dsimp only
      congr 1
      by_cases c : s < i ∧ i < s + 1 + k ∧ x.testBit i = true ∧ at_ l i = p
      · rw [if_pos c, if_pos ⟨c.1, by omega, c.2.2⟩]
      · rw [if_neg c, if_neg fun z => c ⟨z.1, by omega, z.2.2⟩]
    · rw [List.getElem?_eq_none (by rw [List.length_range]; omega)]
      rfl
theorem growK_skip {l : List Nat} {s p x k : Nat} (h : ¬ (x.testBit (s + 1 + k) = true ∧ at_ l (s + 1 + k) = p)) : growK l s p x (k + 1) = growK l s p x k := by
  unfold growK
  apply List.map_congr_left
  intro i _
  by_cases c : s < i ∧ i < s + 1 + k ∧ x.testBit i = true ∧ at_ l i = p
  · rw [if_pos c, if_pos ⟨c.1, by omega, c.2.2⟩]
  · rw [if_neg c, if_neg fun z => ?_]
    by_cases e : i = s + 1 + k
    · subst e
      exact h z.2.2
    · exact c ⟨z.1, by omega, z.2.2⟩
theorem growK_all {n : Net} {t : Tree} {s : Nat} (hs : s < 8) : growK t.above s (at_ t.above s) (n.side s (at_ t.above s)) (7 - s) = (n.grow t s).above := by
  show _ = (List.range 8).map fun i => if s < i ∧ (n.side s (at_ t.above s)).testBit i = true ∧ at_ t.above i = at_ t.above s then s else at_ t.above i
  unfold growK
  apply List.map_congr_left
  intro i hi
  have h8 := List.mem_range.mp hi
  by_cases c : s < i ∧ (n.side s (at_ t.above s)).testBit i = true ∧ at_ t.above i = at_ t.above s
  · rw [if_pos c, if_pos ⟨c.1, by omega, c.2⟩]
  · rw [if_neg c, if_neg fun z => c ⟨z.1, z.2.2⟩]
/-- a tree as it should be: each place hangs below a lesser one, no weight is above 24,000 -/
structure TW (t : Tree) : Prop where
  la : t.above.length = 8
  lm : t.much.length = 8
  lt : ∀ i, 0 < i → i < 8 → at_ t.above i < i
  z : at_ t.above 0 = 0
  w : ∀ i, at_ t.much i ≤ 24000
theorem at_set {l : List Nat} {s v i : Nat} : at_ (l.set s v) i = if s = i ∧ s < l.length then v else at_ l i := by
  unfold at_
  rw [List.getD_eq_getElem?_getD, List.getD_eq_getElem?_getD, List.getElem?_set]
  by_cases e : s = i
  · subst e
    by_cases h : s < l.length
    · rw [if_pos rfl, if_pos h, if_pos ⟨rfl, h⟩]
      rfl
    · rw [if_pos rfl, if_neg h, if_neg fun z => h z.2, List.getElem?_eq_none (by omega)]
  · rw [if_neg e, if_neg fun z => e z.1]
theorem tw_grow {n : Net} {t : Tree} {s : Nat} (W : TW t) (h0 : 0 < s) (h8 : s < 8) (he : ∀ x, n.edge x ≤ 24000) : TW (n.grow t s) := by
  have ea : (n.grow t s).above = (List.range 8).map fun i => if s < i ∧ (n.side s (at_ t.above s)).testBit i = true ∧ at_ t.above i = at_ t.above s then s else at_ t.above i := rfl
  have em : (n.grow t s).much = t.much.set s (n.edge (n.side s (at_ t.above s))) := rfl
  refine ⟨by rw [ea, List.length_map, List.length_range], by rw [em, List.length_set]; exact W.lm, fun i h1 h2 => ?_, ?_, fun i => ?_⟩
  · rw [ea, at_range h2]
    by_cases c : s < i ∧ (n.side s (at_ t.above s)).testBit i = true ∧ at_ t.above i = at_ t.above s
    · rw [if_pos c]
      exact c.1
    · rw [if_neg c]
      exact W.lt i h1 h2
  · rw [ea, at_range (by decide), if_neg (by omega)]
    exact W.z
  · rw [em, at_set]
    by_cases c : s = i ∧ s < t.much.length
    · rw [if_pos c]
      exact he _
    · rw [if_neg c]
      exact W.w i
theorem tw_zero : TW Km361.tree0 := by
  refine ⟨rfl, rfl, fun i h1 h2 => ?_, rfl, fun i => ?_⟩
  · have : at_ Km361.tree0.above i = 0 := by
      have h : ∀ i, i < 8 → at_ Km361.tree0.above i = 0 := by decide
      exact h i h2
    omega
  · by_cases h : i < 8
    · have h : ∀ i, i < 8 → at_ Km361.tree0.much i = 0 := by decide
      rw [h i (by assumption)]
      omega
    · unfold at_
      rw [List.getD_eq_getElem?_getD, List.getElem?_eq_none (by show 8 ≤ i; omega)]
      show 0 ≤ 24000
      omega
/-- the tree behind k steps -/
def treeK (n : Net) (k : Nat) : Tree := (List.range k).foldl (fun t i => n.grow t (i + 1)) Km361.tree0
theorem treeK_succ (n : Net) (k : Nat) : treeK n (k + 1) = n.grow (treeK n k) (k + 1) := by
  unfold treeK
  rw [List.range_succ, List.foldl_append]
  rfl
theorem treeK_all (n : Net) : treeK n 7 = n.tree := rfl
theorem tw_treeK {n : Net} (he : ∀ x, n.edge x ≤ 24000) : ∀ k, k ≤ 7 → TW (treeK n k)
  | 0, _ => tw_zero
  | k + 1, h => by
    rw [treeK_succ]
    exact tw_grow (tw_treeK he k (by omega)) (by omega) (by omega) he
/-! ### the least step on the way -/
section
variable {t : Tree}
theorem up_le (W : TW t) : ∀ (f k : Nat), k < 8 → ∀ p ∈ t.up f k, 0 < p.1 ∧ p.1 ≤ k
  | 0, _, _, p, h => by cases h
  | f + 1, k, hk, p, h => by
    have h : p ∈ (if k = 0 then [] else (k, at_ t.much k) :: t.up f (at_ t.above k)) := h
    by_cases e : k = 0
    · rw [if_pos e] at h
      cases h
    · rw [if_neg e] at h
      have hl := W.lt k (by omega) hk
      rcases List.mem_cons.mp h with q | q
      · rw [q]
        exact ⟨by show 0 < k; omega, Nat.le_refl _⟩
      · have := up_le W f _ (by omega) p q
        omega
theorem up_fuel (W : TW t) : ∀ (k f f' : Nat), k < 8 → k ≤ f → k ≤ f' → t.up f k = t.up f' k := by
  intro k
  induction k using Nat.strongRecOn with
  | _ k ih =>
    intro f f' hk h1 h2
    by_cases e : k = 0
    · subst e
      have z : ∀ f, t.up f 0 = [] := fun f => by
        cases f with
        | zero => rfl
        | succ f =>
          show (if 0 = 0 then _ else _) = _
          rw [if_pos rfl]
      rw [z, z]
    · obtain ⟨g, rfl⟩ : ∃ g, f = g + 1 := ⟨f - 1, by omega⟩
      obtain ⟨g', rfl⟩ : ∃ g', f' = g' + 1 := ⟨f' - 1, by omega⟩
      show (if k = 0 then [] else (k, at_ t.much k) :: t.up g (at_ t.above k)) = if k = 0 then [] else (k, at_ t.much k) :: t.up g' (at_ t.above k)
      have hl := W.lt k (by omega) hk
      rw [if_neg e, if_neg e, ih _ hl g g' (by omega) (by omega) (by omega)]
theorem up_cons (W : TW t) {k : Nat} (h0 : 0 < k) (h8 : k < 8) : t.up 8 k = (k, at_ t.much k) :: t.up 8 (at_ t.above k) := by
  have hl := W.lt k h0 h8
  rw [up_fuel W (at_ t.above k) 8 7 (by omega) (by omega) (by omega)]
  show (if k = 0 then [] else (k, at_ t.much k) :: t.up 7 (at_ t.above k)) = _
  rw [if_neg (by omega)]
theorem fold_min (w : Nat) : ∀ (l : List (Nat × Nat)) (c : Nat), l.foldl (fun m p => min m p.2) (min c w) = min w (l.foldl (fun m p => min m p.2) c)
  | [], c => Nat.min_comm _ _
  | p :: r, c => by
    rw [List.foldl_cons, List.foldl_cons]
    have e : min (min c w) p.2 = min (min c p.2) w := by omega
    rw [e, fold_min w r]
def outOf (x y : List (Nat × Nat)) : List (Nat × Nat) := x.filter fun p => !(y.any fun q => q.1 == p.1)
theorem least_def (a b : Nat) : t.least a b = (outOf (t.up 8 a) (t.up 8 b) ++ outOf (t.up 8 b) (t.up 8 a)).foldl (fun m p => min m p.2) 24000 := rfl
theorem out_self (x : List (Nat × Nat)) : outOf x x = [] := by
  unfold outOf
  rw [List.filter_eq_nil_iff]
  intro p hp
  have : (x.any fun q => q.1 == p.1) = true := List.any_eq_true.mpr ⟨p, hp, by simp⟩
  rw [this]
  simp
theorem least_eq (k : Nat) : t.least k k = 24000 := by
  rw [least_def, out_self]
  rfl
theorem out_cons {p : Nat × Nat} {x y : List (Nat × Nat)} (h : ∀ q ∈ y, q.1 ≠ p.1) : outOf (p :: x) y = p :: outOf x y := by
  unfold outOf
  rw [List.filter_cons]
  have : (y.any fun q => q.1 == p.1) = false := by
    rw [List.any_eq_false]
    intro q hq
    simpa using h q hq
  rw [this]
  rfl
theorem out_past {p : Nat × Nat} {x y : List (Nat × Nat)} (h : ∀ q ∈ y, q.1 ≠ p.1) : outOf y (p :: x) = outOf y x := by
  unfold outOf
  apply List.filter_congr
  intro q hq
  have : (p.1 == q.1) = false := by
    have := h q hq
    simp
    exact fun e => this e.symm
  rw [List.any_cons, this, Bool.false_or]
theorem least_gt (W : TW t) {a b : Nat} (h : b < a) (h8 : a < 8) : t.least a b = min (at_ t.much a) (t.least (at_ t.above a) b) := by
  have hy : ∀ q ∈ t.up 8 b, q.1 ≠ a := fun q hq => by
    have := up_le W 8 b (by omega) q hq
    omega
  rw [least_def, least_def, up_cons W (by omega) h8, out_cons (p := (a, at_ t.much a)) hy, out_past (p := (a, at_ t.much a)) hy, List.cons_append, List.foldl_cons]
  exact fold_min _ _ _
theorem least_lt (W : TW t) {a b : Nat} (h : a < b) (h8 : b < 8) : t.least a b = min (at_ t.much b) (t.least a (at_ t.above b)) := by
  have hy : ∀ q ∈ t.up 8 a, q.1 ≠ b := fun q hq => by
    have := up_le W 8 a (by omega) q hq
    omega
  rw [least_def, least_def, up_cons W (by omega) h8, out_cons (p := (b, at_ t.much b)) hy, out_past (p := (b, at_ t.much b)) hy, List.foldl_append, List.foldl_append, List.foldl_cons, fold_min]
theorem fold_minN (w : Nat) : ∀ (l : List Nat) (c : Nat), l.foldl min (min w c) = min w (l.foldl min c)
  | [], c => rfl
  | p :: r, c => by
    rw [List.foldl_cons, List.foldl_cons]
    have e : min (min w c) p = min w (min c p) := by omega
    rw [e, fold_minN w r]
theorem fold_least_min : ∀ (l : List Nat) (c m : Nat), (∀ y ∈ l, m ≤ y) → m ≤ c → (m ∈ l ∨ m = c) → l.foldl min c = m
  | [], c, m, _, _, h => by
    rcases h with h | h
    · cases h
    · exact h.symm
  | p :: r, c, m, hl, hc, h => by
    rw [List.foldl_cons]
    have hp := hl p (List.mem_cons_self ..)
    refine fold_least_min r (min c p) m (fun y hy => hl y (List.mem_cons_of_mem _ hy)) (by omega) ?_
    rcases h with h | h
    · rcases List.mem_cons.mp h with e | e
      · right
        omega
      · exact .inl e
    · right
      omega
end
end Mk
set_option Elab.async false
set_option linter.all false
namespace Mk
open Km361 (Line Net Tree at_ PLACES LINES MOST Call act)
/-! ### the calls, one behind another -/
def numOf : Call → Nat
  | .start => 0
  | .line _ _ _ => 1
  | .drop _ => 2
  | .wide _ _ => 3
  | .between _ _ => 4
  | .tree => 5
  | .told _ _ => 6
  | .edge _ => 7
  | .weakest => 8
def argsOf : Call → List Nat
  | .start => []
  | .line a b m => [a, b, m]
  | .drop k => [k]
  | .wide k m => [k, m]
  | .between a b => [a, b]
  | .tree => []
  | .told a b => [a, b]
  | .edge s => [s]
  | .weakest => []
def intsOf (l : List Nat) : List Int := l.map fun (n : Nat) => (n : Int)
def rowOf (x : Call) : List Int := (numOf x : Int) :: intsOf (argsOf x)
def flatC : List (List (List Int)) → List Int
  | [] => []
  | c :: r => c.headD [] ++ flatC r
theorem shape_rows {p : Int} {n k : Nat} (h : PyKm361.shape p = some (n, k)) : k = 0 := by
  unfold PyKm361.shape at h
  repeat' split at h
  all_goals
    first
      | (cases h; rfl)
      | cases h
theorem calls_flat : ∀ (f : Nat) (l : List Int) (raw : List (List (List Int))), PyFlat.calls PyKm361.shape f l = some raw → l = flatC raw
  | _, [], raw, h => by
    have h : some [] = some raw := by
      unfold PyFlat.calls at h
      exact h
    cases h
    rfl
  | 0, p :: r, raw, h => by
    unfold PyFlat.calls at h
    cases h
  | f + 1, p :: r, raw, h => by
    unfold PyFlat.calls at h
    cases hc : PyFlat.call PyKm361.shape (p :: r) with
    | none =>
      rw [hc] at h
      cases h
    | some ct =>
      obtain ⟨c, t⟩ := ct
      rw [hc] at h
      dsimp only at h
      cases hr : PyFlat.calls PyKm361.shape f t with
      | none =>
        rw [hr] at h
        cases h
      | some cs =>
        rw [hr] at h
        cases h
        have ih := calls_flat f t cs hr
        unfold PyFlat.call at hc
        dsimp only at hc
        cases hs : PyKm361.shape p with
        | none =>
          rw [hs] at hc
          cases hc
        | some nk =>
          obtain ⟨n, k⟩ := nk
          have hk := shape_rows hs
          subst hk
          rw [hs] at hc
          dsimp only at hc
          by_cases hl : r.length < n
          · rw [if_pos hl] at hc
            cases hc
          · rw [if_neg hl] at hc
            unfold PyFlat.rows at hc
            dsimp only at hc
            cases hc
            show p :: r = (p :: r.take n) ++ flatC cs
            rw [← ih, List.cons_append, List.take_append_drop]
theorem whole_eq (c : List (List Int)) : PyKm361.whole c = c := by
  unfold PyKm361.whole
  split <;> rfl
theorem nat_of {b : Int} {n : Nat} (h : Km361Neutral.natural b n = true) : b = (b.toNat : Int) := by
  unfold Km361Neutral.natural at h
  rw [Bool.and_eq_true] at h
  have := of_decide_eq_true h.1
  omega
theorem asked_call {c : List (List Int)} (h : Km361Neutral.asked1 c = true) : ∃ x : Call, c = [rowOf x] := by
  unfold Km361Neutral.asked1 at h
  split at h
  · exact ⟨.start, rfl⟩
  · rename_i b0 b1 b2
    rw [Bool.and_eq_true, Bool.and_eq_true] at h
    refine ⟨.line b0.toNat b1.toNat b2.toNat, ?_⟩
    rw [nat_of h.1.1, nat_of h.1.2, nat_of h.2]
    rfl
  · rename_i b0
    refine ⟨.drop b0.toNat, ?_⟩
    rw [nat_of h]
    rfl
  · rename_i b0 b1
    rw [Bool.and_eq_true] at h
    refine ⟨.wide b0.toNat b1.toNat, ?_⟩
    rw [nat_of h.1, nat_of h.2]
    rfl
  · rename_i b0 b1
    rw [Bool.and_eq_true] at h
    refine ⟨.between b0.toNat b1.toNat, ?_⟩
    rw [nat_of h.1, nat_of h.2]
    rfl
  · exact ⟨.tree, rfl⟩
  · rename_i b0 b1
    rw [Bool.and_eq_true] at h
    refine ⟨.told b0.toNat b1.toNat, ?_⟩
    rw [nat_of h.1, nat_of h.2]
    rfl
  · rename_i b0
    refine ⟨.edge b0.toNat, ?_⟩
    rw [nat_of h]
    rfl
  · exact ⟨.weakest, rfl⟩
  · cases h
theorem call_of (x : Call) : Km361Neutral.callOf [rowOf x] = some x := by
  cases x <;> rfl
theorem raw_calls : ∀ (raw : List (List (List Int))), raw.all Km361Neutral.asked1 = true → ∃ xs : List Call, raw = xs.map fun x => [rowOf x]
  | [], _ => ⟨[], rfl⟩
  | c :: r, h => by
    rw [List.all_cons, Bool.and_eq_true] at h
    obtain ⟨x, rfl⟩ := asked_call h.1
    obtain ⟨xs, rfl⟩ := raw_calls r h.2
    exact ⟨x :: xs, rfl⟩
theorem flat_calls : ∀ xs : List Call, flatC (xs.map fun x => [rowOf x]) = xs.flatMap rowOf
  | [] => rfl
  | x :: r => by
    show rowOf x ++ flatC (r.map fun x => [rowOf x]) = _
    rw [flat_calls r, List.flatMap_cons]
/-- what is answered from a net on -/
def playN : Net → List Call → List (List Int)
  | _, [] => []
  | n, x :: r => Km361Neutral.told (act n x).2 :: playN (act n x).1 r
theorem step_some (n : Net) (x : Call) : Km361Neutral.step (some n) [rowOf x] = (some (act n x).1, Km361Neutral.told (act n x).2) := by
  unfold Km361Neutral.step
  rw [call_of]
theorem played_some : ∀ (xs : List Call) (n : Net), PyFlat.played Km361Neutral.step (some n) (xs.map fun x => [rowOf x]) = playN n xs
  | [], _ => rfl
  | x :: r, n => by
    show (Km361Neutral.step (some n) [rowOf x]).2 :: PyFlat.played Km361Neutral.step (Km361Neutral.step (some n) [rowOf x]).1 (r.map fun x => [rowOf x]) = _
    rw [step_some]
    show _ :: PyFlat.played Km361Neutral.step (some (act n x).1) (r.map fun x => [rowOf x]) = _
    rw [played_some r]
    rfl
theorem played_start : ∀ (xs : List Call), Km361Neutral.may Km361Neutral.start (xs.map fun x => [rowOf x]) = true → PyFlat.played Km361Neutral.step Km361Neutral.start (xs.map fun x => [rowOf x]) = playN Km361.fresh xs
  | [], _ => rfl
  | x :: r, h => by
    have h : (!((Km361Neutral.step none [rowOf x]).2.isEmpty) && Km361Neutral.may (Km361Neutral.step none [rowOf x]).1 (r.map fun x => [rowOf x])) = true := h
    rw [Bool.and_eq_true] at h
    have e : Km361Neutral.step none [rowOf x] = (some (act Km361.fresh x).1, Km361Neutral.told (act Km361.fresh x).2) := by
      have h1 := h.1
      cases x with
      | start => rfl
      | line a b m => cases h1
      | drop k => cases h1
      | wide k m => cases h1
      | between a b => cases h1
      | tree => cases h1
      | told a b => cases h1
      | edge s => cases h1
      | weakest => cases h1
    show (Km361Neutral.step none [rowOf x]).2 :: PyFlat.played Km361Neutral.step (Km361Neutral.step none [rowOf x]).1 (r.map fun x => [rowOf x]) = _
    rw [e]
    show _ :: PyFlat.played Km361Neutral.step (some (act Km361.fresh x).1) (r.map fun x => [rowOf x]) = _
    rw [played_some r]
    rfl
/-- what is handed in is a list of calls, and what is due is what they answer one by one -/
theorem asked_plays {l : List Int} (h : PyKm361.answers_asked l = true) : ∃ xs : List Call, l = xs.flatMap rowOf ∧ xs.length ≤ 1000 ∧ PyKm361.answers l = PyFlat.told (playN Km361.fresh xs) := by
  unfold PyKm361.answers_asked at h
  have ha : PyKm361.answers l = match PyKm361.calls l with | none => [] | some cs => PyFlat.told (PyFlat.played Km361Neutral.step Km361Neutral.start cs) := rfl
  unfold PyKm361.calls at ha
  cases hc : PyFlat.calls PyKm361.shape l.length l with
  | none =>
    rw [hc] at h
    cases h
  | some raw =>
    rw [hc] at h ha
    have hw : raw.map PyKm361.whole = raw := by
      rw [List.map_congr_left (fun c _ => whole_eq c)]
      exact List.map_id' _
    dsimp only at h ha
    rw [hw] at h ha
    simp only [Bool.and_eq_true] at h
    obtain ⟨⟨⟨⟨_, h2⟩, _⟩, h4⟩, _⟩ := h
    have h2 : raw.length ≤ 1000 := of_decide_eq_true h2
    unfold Km361Neutral.asked at h4
    simp only [Bool.and_eq_true] at h4
    obtain ⟨_, _, h5, h6⟩ := h4
    obtain ⟨xs, rfl⟩ := raw_calls raw h5
    refine ⟨xs, ?_, by simpa using h2, ?_⟩
    · rw [calls_flat _ _ _ hc, flat_calls]
    · rw [ha, played_start xs h6]
/-! ### an answer is short -/
theorem treeK_len (n : Net) : ∀ k, (treeK n k).above.length = 8 ∧ (treeK n k).much.length = 8
  | 0 => ⟨rfl, rfl⟩
  | k + 1 => by
    obtain ⟨h1, h2⟩ := treeK_len n k
    rw [treeK_succ]
    refine ⟨?_, ?_⟩
    · show ((List.range 8).map _).length = 8
      rw [List.length_map, List.length_range]
    · show ((treeK n k).much.set _ _).length = 8
      rw [List.length_set]
      exact h2
theorem told_len (n : Net) (x : Call) : (Km361Neutral.told (act n x).2).length ≤ 17 := by
  have one : ∀ v, (Km361Neutral.told (Km361.only v)).length ≤ 17 := fun v => by
    show 1 ≤ 17
    decide
  have two : ∀ v k, (Km361Neutral.told ⟨v, [k]⟩).length ≤ 17 := fun v k => by
    show 2 ≤ 17
    decide
  cases x with
  | start => exact one _
  | line a b m =>
    unfold act
    dsimp only
    split
    · exact one _
    · split
      · exact one _
      · exact one _
  | drop k =>
    unfold act
    dsimp only
    split
    · exact one _
    · exact one _
  | wide k m =>
    unfold act
    dsimp only
    split
    · exact one _
    · split
      · exact one _
      · exact one _
  | between a b =>
    unfold act
    dsimp only
    split
    · exact one _
    · exact two _ _
  | tree =>
    unfold act
    dsimp only
    obtain ⟨h1, h2⟩ := treeK_len n 7
    rw [treeK_all] at h1 h2
    show (0 :: Km361Neutral.nums (n.tree.above ++ n.tree.much)).length ≤ 17
    unfold Km361Neutral.nums
    rw [List.length_cons, List.length_map, List.length_append, h1, h2]
    decide
  | told a b =>
    unfold act
    dsimp only
    split
    · exact one _
    · exact one _
  | edge s =>
    unfold act
    dsimp only
    split
    · exact one _
    · exact one _
  | weakest => exact two _ _
theorem told_cons (a : List Int) (r : List (List Int)) : PyFlat.told (a :: r) = (a.length : Int) :: a ++ PyFlat.told r := rfl
theorem args_len (x : Call) : (rowOf x).length = 1 + (argsOf x).length := by
  unfold rowOf intsOf
  rw [List.length_cons, List.length_map]
  omega
def counts : List Nat := [0, 3, 1, 2, 2, 0, 2, 1, 0]
theorem count_of (x : Call) : counts[numOf x]? = some (argsOf x).length := by
  cases x <;> rfl
end Mk
set_option Elab.async false
set_option linter.all false
set_option maxRecDepth 100000
set_option maxHeartbeats 2000000
namespace Mk
open PySem PySem.Spec PyProof.Rows L2 LamX NdefX
/-! a lambda with parameters and captured names is called from within a built-in -/
section
variable {X : Cx} {pins : List (Addr × Obj)} {σ : L2.St} {H : Hp} {s : Shared} {A : Around}
theorem lam_run {F : NF} {body : Expr} {f : Addr} {ps fr N : List Str} {k : Nat} {us : List Value} {vs : List V} {ws : List (Option V)} {pm ctv : Value} {tb : TE} {Q : VK}
    (I : Inv X pins σ H s) (sb : Sub X (k + 1) A) (ho : s.heap.get? f = some (PySem.W.kla_obj F.name F.qual F.params body F.scope F.cl pm F.c ctv))
    (hc : H F.c = some (CodeO F.c F.qual)) (S : NScope N ps fr F.scope) (C : CellsAt F.cl fr ws s.heap H) (r : Vals vs us) (hl : vs.length = ps.length)
    (hb : bindArgs (PySem.W.kla_fn F.name F.qual F.params body F.scope F.cl pm (.ref F.c) ctv) ⟨us, []⟩ = pure (ps.zip us))
    (hbody : Room k (A.deeper (envF F f s.heap.objs.size)) → PE (ncx L2.CX0 X.prog X.w X.K X.mg X.base N F f A X.stack s H L2.E0) body tb) (hq : tb (startF N vs ws) H Q) :
    wpAny (model X.prog X.w) A (call (.ref f) us) (EP X pins σ Q) (fun _ _ => False) s := by
  have lim : s.heap.NoLimit := I.nolimit
  have e := I.env0
  have e0 : Env0 X.prog X.w X.K X.mg X.base A X.stack s H := ⟨by rw [sb.fr]; exact e.frames, e.mod, e.bs, e.bsz, e.funs, e.frf, e.hok, e.bare⟩
  have rc : codeAny (model X.prog X.w) A (.call (.ref f) ⟨us, []⟩) (CR L2.CX0 X.stack X.prog X.w H s Q L2.E0) s := by
    refine PySem.W.kla_callFunE sb.room.depth ho rfl S.co S.gen rfl (codeO_at I.hok hc) ?_
    rw [hb]
    refine wpAny_pure (wpAny_newFunctionEnv S.nocell (fun y hy => S.par y.1 (List.of_mem_zip hy).1) (fun h1 hns hsb => ⟨lim.fresh _ hsb, ?_⟩) S.kind)
    show codeAny _ _ (.expr body (envF F f s.heap.objs.size)) _ _
    have kp : ∀ b o, s.heap.get? b = some o → h1.get? b = some o := fun b o e => hsb.extBut b o (Nat.ne_of_lt (Heap.lt_size e)) (Heap.get?_push_of_some _ e)
    have J : Inv (ncx L2.CX0 X.prog X.w X.K X.mg X.base N F f A X.stack s H L2.E0) [] (startF N vs ws) H { s with heap := h1, toks := s.toks + (ps.zip us).length } := inv_startN S sb.room.hd e0 hl r C hns kp
    refine PySem.W.kla_codeExpr (wpAny_mono ((hbody (sb.room.deeper _)).run [] _ (startF N vs ws) H Q J hq) (fun v s' hv => ?_) fun e s' he => he)
    obtain ⟨w', H', J', rv, q⟩ := hv
    exact ⟨w', H', J'.os, J'.bare, J'.base, J'.hok, rv, q⟩
  refine wpAny_call (codeAny_mono rc fun r s' hq => ?_)
  cases r with
  | error e => exact (show False from hq).elim
  | ok fl =>
    cases fl with
    | ret u => exact I.after hq
    | next => exact False.elim hq
    | brk => exact False.elim hq
    | cont => exact False.elim hq
end
/-! ### min over a list by a key that only reads -/
def Turn (X : Cx) (pins : List (Addr × Obj)) (σ : L2.St) (A : Around) (f : Addr) (xs : List V) (kf : Nat → Int) (H0 : Hp) : Prop :=
  ∀ (j : Nat) (x : V) (pins' : List (Addr × Obj)) (H : Hp) (s : Shared) (u : Value), xs[j]? = some x → (∀ p ∈ pins, p ∈ pins') → Inv X pins' σ H s → Same H0 H → RelV x u →
    wpAny (model X.prog X.w) A (call (.ref f) [u]) (fun v s' => ∃ t H', v = .int (kf j) t ∧ Inv X pins' σ H' s' ∧ Same H H') (fun _ _ => False) s
/-- i is the first place of the least key among those below n -/
def Best (kf : Nat → Int) (n i : Nat) : Prop := ∀ j, j < n → kf i ≤ kf j ∧ (j < i → kf i < kf j)
theorem two_vals {x : V} {k : Int} {its : List Value} (r : Vals [x, .int k] its) : ∃ u t, its = [u, .int k t] ∧ RelV x u := by
  cases r with
  | cons r1 r2 =>
    cases r2 with
    | cons r3 r4 =>
      cases r4
      obtain ⟨t, rfl⟩ := r3
      exact ⟨_, t, rfl, r1⟩
theorem same_upd {H0 H : Hp} {S : Addr} {o : HO} (h : Same H0 H) (hS : H0 S = none) : Same H0 (upd H S o) := fun b u e => by
  rw [upd_ne (ne_of_none e hS)]
  exact h b u e
section
variable {X : Cx} {pins : List (Addr × Obj)} {σ : L2.St} {A : Around} {f l I S : Addr} {xs : List V} {kf : Nat → Int} {H0 : Hp} {R : Result → Shared → Prop}
/-- the iterator has turned; it is pinned anew -/
theorem iter_turn {H : Hp} {s : Shared} {oI oJ : Obj} {h' : Heap} {tk : Nat} (J : Inv X ((I, oI) :: pins) σ H s) (hI : X.s_0.heap.objs.size ≤ I) (hIc : ∀ x c, X.env.cells.lookup x = some c → c ≠ I)
    (hIp : ∀ p ∈ X.pn ++ pins, p.1 ≠ I) (hk : ∀ b o, b ∉ [I] → s.heap.get? b = some o → h'.get? b = some o) : Inv X pins σ H { s with heap := h', toks := tk } := by
  obtain ⟨e, n, ne, nf, d⟩ := J.pin (I, oI) (List.mem_append_right _ (List.mem_cons_self ..))
  have J1 : Inv X pins σ H s := J.pins_of fun p hp => J.pin p (List.mem_append_right _ (List.mem_cons_of_mem _ hp))
  exact J1.turned (fun b o hb ho => hk b o (fun z => hb (List.mem_singleton.mp z)) ho) n ne (.inr hI) hIc hIp
theorem pin_more {H : Hp} {s : Shared} {oI : Obj} (J : Inv X pins σ H s) (he : s.heap.get? I = some oI) (hn : H I = none) (hL : I ≠ X.env.locals) (hf : I ∉ X.fs) (hd : ∀ v, oI.data ≠ .cell v) : Inv X ((I, oI) :: pins) σ H s :=
  J.pins_of fun p hp => by
    rcases List.mem_cons.mp hp with e | m
    · rw [e]
      exact ⟨he, hn, hL, hf, hd⟩
    · exact J.pin p (List.mem_append_right _ m)
theorem min_loop (hh : A.in1.handled = none) (tr : Turn X pins σ A.in1 f xs kf H0) (hl : ∀ H, Same H0 H → SqL X.K H l xs) (hS0 : H0 S = none) (hlI : l ≠ I) (hSI : S ≠ I)
    (hI : X.s_0.heap.objs.size ≤ I) (hIc : ∀ x c, X.env.cells.lookup x = some c → c ≠ I) (hIp : ∀ p ∈ X.pn ++ pins, p.1 ≠ I)
    (hR : ∀ (i : Nat) (x : V) (u : Value) (H : Hp) (s : Shared), xs[i]? = some x → Best kf xs.length i → RelV x u → Inv X pins σ H s → Same H0 H → R (.ok (.ret u)) s) :
    ∀ (r j i : Nat) (H : Hp) (s : Shared) (xb : V) (oI : Obj), xs.length - (j + 1) = r → j + 1 ≤ xs.length → Inv X ((I, oI) :: pins) σ H s → s.heap.IsListIter I l (j + 1) → Same H0 H →
      H S = some (.lst [xb, .int (kf i)]) → xs[i]? = some xb → i ≤ j → Best kf (j + 1) i → codeAny (model X.prog X.w) A (.builtin "min.loop" ⟨[.ref I, .ref f, .ref S], []⟩) R s := by
  intro r
  induction r with
  | zero =>
    intro j i H s xb oI hr hj J hit hH hS hx hij hb
    have hin : j + 1 = xs.length := by omega
    obtain ⟨its, rv, pl, hsz⟩ := J.list (hl H hH)
    have hlen := rv.length
    have W := Walks.list (prog := X.prog) (w := X.w) (A := A.in1) hh I l hlI its.toArray
    obtain ⟨z, ks, n, rk, _, hSo⟩ := J.lstM hS
    obtain ⟨ub, tb, rfl, rb⟩ := two_vals rk
    refine codeAny_builtin PySem.F.entry_min_loop ?_
    rw [Around.under_plainId PySem.F.plain_min_loop _]
    show wpAny _ A.in1 (seqItems? (.ref S) >>= _) _ _ _
    refine wpAny_bind (wpAny_seqItems hSo rfl ?_)
    show wpAny _ A.in1 (tryCatch (pyNext (.ref I)) _ >>= _) _ _ _
    refine wpAny_bind (wpAny_tryCatch (W.done _ _ _ ⟨by rw [List.size_toArray, ← hlen, ← hin]; exact hit, pl.isList⟩ fun h' tk' hk' => ?_))
    have J1 := iter_turn (tk := tk') (oJ := oI) J hI hIc hIp hk'
    have hS' := hk' S _ (fun z => hSI (List.mem_singleton.mp z)) hSo
    show wpAny _ A.in1 (updateSeq S (fun _ => #[]) >>= _) _ _ _
    refine wpAny_bind ?_
    refine wpAny_updateSeq hS' rfl (wpAny_bind (wpAny_letGo (wpAny_pure ?_)))
    have J2 := J1.lset (f := fun _ => #[]) (its := [ub, .int (kf i) tb]) (its' := []) (ys := []) (t' := tk') hS hS' rfl .nil (Nat.zero_le _)
    exact hR i xb ub _ _ hx (by rw [← hin]; exact hb) rb J2 (same_upd hH hS0)
  | succ r ih =>
    intro j i H s xb oI hr hj J hit hH hS hx hij hb
    have hlt : j + 1 < xs.length := by omega
    obtain ⟨its, rv, pl, hsz⟩ := J.list (hl H hH)
    have hlen := rv.length
    have W := Walks.list (prog := X.prog) (w := X.w) (A := A.in1) hh I l hlI its.toArray
    obtain ⟨z, ks, n, rk, _, hSo⟩ := J.lstM hS
    obtain ⟨ub, tb, rfl, rb⟩ := two_vals rk
    obtain ⟨eI, nI, neI, nfI, dI⟩ := J.pin (I, oI) (List.mem_append_right _ (List.mem_cons_self ..))
    refine codeAny_builtin PySem.F.entry_min_loop ?_
    rw [Around.under_plainId PySem.F.plain_min_loop _]
    show wpAny _ A.in1 (seqItems? (.ref S) >>= _) _ _ _
    refine wpAny_bind (wpAny_seqItems hSo rfl ?_)
    show wpAny _ A.in1 (tryCatch (pyNext (.ref I)) _ >>= _) _ _ _
    refine wpAny_bind (wpAny_tryCatch (W.item (j + 1) _ _ _ (by rw [List.size_toArray, ← hlen]; exact hlt) ⟨hit, pl.isList⟩ fun v h' tk' hP hst' hk' => ?_))
    have hv : its[j + 1]? = some v := by simpa using hP
    obtain ⟨oI', hoI', hoc, hod⟩ := id hst'.1
    have J1 := iter_turn (tk := tk') (oJ := oI) J hI hIc hIp hk'
    have J2 : Inv X ((I, oI') :: pins) σ H { s with heap := h', toks := tk' } := pin_more J1 hoI' nI neI nfI fun v z => by
      rw [hod] at z
      cases z
    have hxj : xs[j + 1]? = some xs[j + 1] := List.getElem?_eq_getElem hlt
    obtain ⟨v2, hv2, rvx⟩ := rv.get hxj
    have ev : v2 = v := Option.some.inj (hv2.symm.trans hv)
    subst ev
    show wpAny _ A.in1 (tryCatch (holding [v2] (call (.ref f) [v2])) _ >>= _) _ _ _
    refine wpAny_bind (wpAny_tryCatch (wpAny_holding (wpAny_mono (tr (j + 1) _ _ H _ v2 hxj (fun p hp => List.mem_cons_of_mem _ hp) J2 hH rvx) (fun x s'' he => ?_) fun _ _ hF => hF.elim)))
    obtain ⟨t2, H2, rfl, J3, hH2⟩ := he
    have hS2 := hH2 S _ hS
    have hHH : Same H0 H2 := fun b o e => hH2 b o (hH b o e)
    obtain ⟨eI2, nI2, neI2, nfI2, dI2⟩ := J3.pin (I, oI') (List.mem_append_right _ (List.mem_cons_self ..))
    have hit2 : s''.heap.IsListIter I l (j + 1 + 1) := ⟨oI', eI2, hoc, hod⟩
    show wpAny _ A.in1 (tryCatch (holding [v2, .int (kf (j + 1)) t2] (richCompare .Lt (.int (kf (j + 1)) t2) (.int (kf i) tb) >>= _)) _ >>= _) _ _ _
    refine wpAny_bind (wpAny_tryCatch (wpAny_holding (wpAny_bind (CmpOf.ints_lt (prog := X.prog) (w := X.w) (A := A.in1) (P := fun i v => ∃ t, v = .int (kf i) t) kf (fun i v h => h) (j + 1) i _ _ _ _ _ ⟨t2, rfl⟩ ⟨tb, rfl⟩ ?_))))
    refine wpAny_bind (wpAny_holding (wpAny_truthy_bool ?_))
    refine wpAny_bind (wpAny_letGo (wpAny_pure ?_))
    by_cases hb' : kf (j + 1) < kf i
    · obtain ⟨_, ks2, n2, rk2, _, hSo2⟩ := J3.lstM hS2
      simp only [hb', decide_true, if_true]
      refine wpAny_bind ?_
      refine wpAny_updateSeq hSo2 rfl (wpAny_bind (wpAny_letGo ?_))
      have J4 := J3.lset (f := fun _ => #[v2, .int (kf (j + 1)) t2]) (its' := [v2, .int (kf (j + 1)) t2]) (ys := [xs[j + 1], .int (kf (j + 1))]) (t' := s''.toks) hS2 hSo2 rfl (.cons rvx (.cons ⟨t2, rfl⟩ .nil)) (by show 2 ≤ sizeLine; decide)
      refine wpAny_pure ⟨plainId_quiet PySem.F.plain_min_loop _, ih (j + 1) (j + 1) _ _ _ oI' (by omega) hlt J4 ⟨oI', ?_, hoc, hod⟩ (same_upd hHH hS0) upd_same hxj (Nat.le_refl _) fun j' hj' => ?_⟩
      · exact (J4.pin (I, oI') (List.mem_append_right _ (List.mem_cons_self ..))).1
      · by_cases e : j' = j + 1
        · subst e
          exact ⟨by omega, fun _ => by omega⟩
        · have hb1 := hb j' (by omega)
          have hb2 := hb1.1
          exact ⟨by omega, fun _ => by omega⟩
    · simp only [hb', decide_false, Bool.false_eq_true, if_false]
      refine wpAny_bind (wpAny_letGo ?_)
      refine wpAny_pure ⟨plainId_quiet PySem.F.plain_min_loop _, ih (j + 1) i _ _ xb oI' (by omega) hlt J3 hit2 hHH hS2 hx (by omega) fun j' hj' => ?_⟩
      by_cases e : j' = j + 1
      · subst e
        exact ⟨by omega, fun _ => by omega⟩
      · exact hb j' (by omega)
end
section
variable {X : Cx} {pins : List (Addr × Obj)} {σ : L2.St} {H : Hp} {s : Shared} {f l : Addr} {xs : List V} {kf : Nat → Int} {Q : VK} {k : Nat}
theorem min_call (I : Inv X pins σ H s) (hr : Room k X.A) (hl : SqL X.K H l xs) (hne : 0 < xs.length) (tr : Turn X pins σ X.A.in1 f xs kf H)
    (hQ : ∀ (i : Nat) (x : V) (H' : Hp), xs[i]? = some x → Best kf xs.length i → Same H H' → Q x H') :
    wpAny (model X.prog X.w) X.A (call (.builtin "min") [.ref l] [(Str.ofString "key", .ref f)]) (EP X pins σ Q) X.xe s := by
  obtain ⟨its, rv, pl, hsz⟩ := I.list hl
  have hlen := rv.length
  have hh : X.A.in1.handled = none := hr.hd
  obtain ⟨ol, _, hol, _⟩ := id pl
  have hll : l < s.heap.objs.size := Heap.lt_size hol
  have hlI : l ≠ s.heap.objs.size := Nat.ne_of_lt hll
  refine kmk_tree PySem.F.kind_min PySem.F.plain_min PySem.F.entry_min (kmk_min_key _ _) ?_
  show wpAny _ X.A.in1 (Builtin.Builtins.bindParams "min" ["key", "default"] 0 ⟨[], [(Str.ofString "key", .ref f)]⟩ >>= _) _ _ s
  refine wpAny_bind (wpAny_of_eq (show Builtin.Builtins.bindParams "min" ["key", "default"] 0 ⟨[], [(Str.ofString "key", .ref f)]⟩ = pure [some (.ref f), none] from rfl) ?_)
  refine wpAny_bind (wpAny_pure ?_)
  refine wpAny_bind (wpAny_pyIter_list pl.isList ?_)
  refine wpAny_bind (wpAny_newList ?_ (Nat.zero_le _))
  have hname : (toString "min" ++ toString ".loop" : String) = "min.loop" := by decide
  rw [hname]
  refine wpAny_pure ⟨plainId_quiet PySem.F.plain_min_loop _, ?_⟩
  have sz1 : (s.heap.push { cls := .type "list_iterator", data := .fields #[.ref l, .int 0 0] }).objs.size = s.heap.objs.size + 1 := size_push' ..
  have gI0 : (s.heap.push { cls := .type "list_iterator", data := .fields #[.ref l, .int 0 0] }).get? s.heap.objs.size = some { cls := .type "list_iterator", data := .fields #[.ref l, .int 0 0] } := Heap.get?_push_size _ rfl
  have J0 : Inv X pins σ H { s with heap := s.heap.push { cls := .type "list_iterator", data := .fields #[.ref l, .int 0 0] } } := I.kept (t' := s.toks) fun b u e => Heap.get?_push_of_some _ e
  have nI : H s.heap.objs.size = none := I.hok.fresh (Nat.le_refl _)
  have neI : s.heap.objs.size ≠ X.env.locals := Nat.ne_of_gt I.lt
  have nfI : s.heap.objs.size ∉ X.fs := I.nofs (Nat.le_refl _)
  have hI : X.s_0.heap.objs.size ≤ s.heap.objs.size := I.sz
  have hIc : ∀ x c, X.env.cells.lookup x = some c → c ≠ s.heap.objs.size := fun x c e => by
    obtain ⟨v, o, ho, _⟩ := I.cell x c e
    exact Nat.ne_of_lt (Heap.lt_size ho)
  have hIp : ∀ p ∈ X.pn ++ pins, p.1 ≠ s.heap.objs.size := fun p hp => Nat.ne_of_lt (Heap.lt_size (I.pin p hp).1)
  have nS0 : H (s.heap.objs.size + 1) = none := I.hok.fresh (Nat.le_succ _)
  have J1 := J0.lnew (its := []) (ys := []) (t' := s.toks) .nil (Nat.zero_le _)
  generalize hS : (s.heap.push { cls := .type "list_iterator", data := .fields #[.ref l, .int 0 0] }).objs.size = S at J1
  have hS' : S = s.heap.objs.size + 1 := by rw [← hS]; exact sz1
  have hSI : S ≠ s.heap.objs.size := by rw [hS']; exact Nat.succ_ne_self _
  have nS : H S = none := by rw [hS']; exact nS0
  have gI : ((s.heap.push { cls := .type "list_iterator", data := .fields #[.ref l, .int 0 0] }).push (seqObj "list" #[] 0)).get? s.heap.objs.size = some { cls := .type "list_iterator", data := .fields #[.ref l, .int 0 0] } := Heap.get?_push_of_some _ gI0
  generalize hI9 : s.heap.objs.size = I9 at *
  have hH1 : Same H (upd H S (.lst [])) := same_upd (Same.refl H) nS
  have J2 : Inv X ((I9, { cls := .type "list_iterator", data := .fields #[.ref l, .int 0 0] }) :: pins) σ (upd H S (.lst [])) { s with heap := (s.heap.push { cls := .type "list_iterator", data := .fields #[.ref l, .int 0 0] }).push (seqObj "list" #[] 0) } :=
    pin_more J1 gI (by rw [upd_ne (Ne.symm hSI)]; exact nI) neI nfI fun v z => by cases z
  have goal_R : ∀ (i : Nat) (x : V) (u : Value) (H' : Hp) (s' : Shared), xs[i]? = some x → Best kf xs.length i → RelV x u → Inv X pins σ H' s' → Same H H' → EP X pins σ Q u s' :=
    fun i x u H' s' hx hb hu hJ hs => ⟨x, H', hJ, hu, hQ i x H' hx hb hs⟩
  obtain ⟨its1, rv1, pl1, _⟩ := J2.list (hH1.seq hl)
  have hlen1 := rv1.length
  have W := Walks.list (prog := X.prog) (w := X.w) (A := X.A.in1) hh I9 l hlI its1.toArray
  obtain ⟨_, ks, n, rk, _, hSo⟩ := J2.lstM upd_same
  cases rk
  refine codeAny_builtin PySem.F.entry_min_loop ?_
  rw [Around.under_plainId PySem.F.plain_min_loop _]
  show wpAny _ X.A.in1 (seqItems? (.ref _) >>= _) _ _ _
  refine wpAny_bind (wpAny_seqItems hSo rfl ?_)
  show wpAny _ X.A.in1 (tryCatch (pyNext (.ref _)) _ >>= _) _ _ _
  refine wpAny_bind (wpAny_tryCatch (W.item 0 _ _ _ (by rw [List.size_toArray, ← hlen1]; exact hne) ⟨⟨_, gI, rfl, rfl⟩, pl1.isList⟩ fun v h' tk' hP hst' hk' => ?_))
  have hv : its1[0]? = some v := by simpa using hP
  obtain ⟨oI', hoI', hoc, hod⟩ := id hst'.1
  have J3 := iter_turn (tk := tk') (oJ := oI') J2 hI hIc hIp hk'
  have J4 := pin_more J3 hoI' (by rw [upd_ne (Ne.symm hSI)]; exact nI) neI nfI fun v z => by
    rw [hod] at z
    cases z
  have hx0 : xs[0]? = some xs[0] := List.getElem?_eq_getElem hne
  obtain ⟨v2, hv2, rvx⟩ := rv1.get hx0
  have ev : v2 = v := Option.some.inj (hv2.symm.trans hv)
  subst ev
  show wpAny _ X.A.in1 (tryCatch (holding [v2] (call (.ref f) [v2])) _ >>= _) _ _ _
  refine wpAny_bind (wpAny_tryCatch (wpAny_holding (wpAny_mono (tr 0 _ _ _ _ v2 hx0 (fun p hp => List.mem_cons_of_mem _ hp) J4 hH1 rvx) (fun x s'' he => ?_) fun _ _ hF => hF.elim)))
  obtain ⟨t2, H2, rfl, J5, hH2⟩ := he
  have hS2 := hH2 S _ upd_same
  have hHH : Same H H2 := hH1.trans hH2
  obtain ⟨_, ks2, n2, rk2, _, hSo2⟩ := J5.lstM hS2
  show wpAny _ X.A.in1 (updateSeq S (fun _ => #[v2, .int (kf 0) t2]) >>= _) _ _ _
  refine wpAny_bind ?_
  refine wpAny_updateSeq hSo2 rfl ?_
  have J6 := J5.lset (f := fun _ => #[v2, .int (kf 0) t2]) (its' := [v2, .int (kf 0) t2]) (ys := [xs[0], .int (kf 0)]) (t' := s''.toks) hS2 hSo2 rfl (.cons rvx (.cons ⟨t2, rfl⟩ .nil)) (by show 2 ≤ sizeLine; decide)
  refine wpAny_pure ⟨plainId_quiet PySem.F.plain_min_loop _, min_loop (H0 := H) hh tr (fun H' e => e.seq hl) nS hlI hSI hI hIc hIp (fun i x u H' s' a b c d e => goal_R i x u H' s' a b c d e) _ 0 0 _ _ _ oI' rfl hne J6 ⟨oI', ?_, hoc, hod⟩ (same_upd hHH nS) upd_same hx0 (Nat.le_refl _) fun j' hj' => ?_⟩
  · exact (J6.pin (I9, oI') (List.mem_append_right _ (List.mem_cons_self ..))).1
  · have e : j' = 0 := by omega
    subst e
    exact ⟨by omega, fun h => absurd h (Nat.lt_irrefl _)⟩
end
theorem extN_seq {K : PySem.W.Frag} {H H' : Hp} {a : Addr} {xs : List V} (e : ExtN H H') (h : SqL K H a xs) : SqL K H' a xs := by
  rcases h with (h | ⟨o, h⟩) | h
  · exact .inl (.inl (e _ _ h fun _ z => nomatch z))
  · exact .inl (.inr ⟨o, e _ _ h fun _ z => nomatch z⟩)
  · exact .inr h
/-- min(e, key=lambda x: body), the key only reads -/
def tMinLam (K : PySem.W.Frag) (T : List (Addr × Str)) (N : List Str) (js : List Nat) (te tb : TE) : TE := fun σ H Q => te σ H fun v H1 => ∃ (l : Addr) (xs : List V) (kf : Nat → Int), v = .ref l ∧ SqL K H1 l xs ∧ 0 < xs.length ∧ Tabs T H1 ∧
  ∀ H2, ExtN H1 H2 → Tabs T H2 → (∀ (j : Nat) (x : V) (H3 : Hp), xs[j]? = some x → Same H2 H3 → tb (startF N [x] (js.map (slotAt σ))) H3 fun v H4 => v = .int (kf j) ∧ Same H3 H4) ∧
    ∀ (i : Nat) (x : V) (H3 : Hp), xs[i]? = some x → Best kf xs.length i → Same H2 H3 → Q x H3
theorem pe_minlam {X : Cx} {T : List (Addr × Str)} {c P : Addr} {e body : Expr} {params : Arguments} {scope : Scope} {te tb : TE} {p lpos kpos pos : Pos} {N fr : List Str} {px : Str} {js : List Nat} {k : Nat}
    (hg : Gl X "min") (hm : X.mg "min" = none) (ha : PE X e te) (TB : TabB X.base X.mg c P) (hcode : X.env.code = .ref c) (hmT : (P, X.env.qual ++ "<lambda>") ∈ T) (hu : ∀ q ∈ T, q.1 = P → q.2 = X.env.qual ++ "<lambda>")
    (hdef : defaultsOf params X.env = ([], [])) (hfree : ∀ y ∈ scope.names, y.2 = .free → X.env.scope.names.lookup y.1 = some .cell ∨ X.env.scope.names.lookup y.1 = some .free) (hfr : ∀ y ∈ fr, (y, NameKind.free) ∈ scope.names)
    (hjs : js.map (fun j => X.N[j]?) = fr.map some) (S : NScope N [px] fr scope) (hr : Room (k + 2) X.A)
    (hbind : ∀ (q : Str) (cl : List (Str × Addr)) (pm cv ctv u : Value), bindArgs (PySem.W.kla_fn "<lambda>" q params body scope cl pm cv ctv) ⟨[u], []⟩ = pure ([px].zip [u]))
    (hbody : ∀ (A : Around) (outer : List Env) (s : Shared) (H : Hp) (f : Addr) (F : NF), F.scope = scope → Room k (A.deeper (envF F f s.heap.objs.size)) → PE (ncx L2.CX0 X.prog X.w X.K X.mg X.base N F f A outer s H L2.E0) body tb)
    (hv : bootBuiltins "min" = some (.builtin "min") := by decide +kernel) (hs : starEach [e] X.env = (false, eval e X.env) :: starEach [] X.env := by rfl)
    (he : backTo pos (starEach [e] X.env) = (false, eval e X.env) :: backTo pos (starEach [] X.env) := by rfl) (hpl : (backTo pos (starEach [e] X.env)).any (·.1) = false := by rfl) :
    PE X (.Call (.Name "min" p) [e] [⟨some "key", .Lambda params body scope lpos, kpos⟩] pos) (tMinLam X.K T N js te tb) := by
  refine ⟨fun pins s σ H Q I h => ?_⟩
  refine wpAny_Call_Name_kw (ld_blt I hg hm hv ?_)
  refine PyProof.Rows.callWith_kw (thn ((pa_cons ha pa_nil hs).run pos pins s σ H (fun vs H1 => match vs with
    | [v] => ∃ (l : Addr) (xs : List V) (kf : Nat → Int), v = .ref l ∧ SqL X.K H1 l xs ∧ 0 < xs.length ∧ Tabs T H1 ∧
      ∀ H2, ExtN H1 H2 → Tabs T H2 → (∀ (j : Nat) (x : V) (H3 : Hp), xs[j]? = some x → Same H2 H3 → tb (startF N [x] (js.map (slotAt σ))) H3 fun v H4 => v = .int (kf j) ∧ Same H3 H4) ∧
        ∀ (i : Nat) (x : V) (H3 : Hp), xs[i]? = some x → Best kf xs.length i → Same H2 H3 → Q x H3
    | _ => False) I h) fun us s1 ⟨vs, H1, I1, r1, q1⟩ => ?_) he hpl
  match vs, r1, q1 with
  | [v], r1, q1 =>
    obtain ⟨l, xs, kf, rfl, hl, hne, hT, q⟩ := q1
    cases r1 with
    | cons rv rn =>
      cases rn
      cases rv
      show wpAny _ _ (evalAll [(do let v ← eval (.Lambda params body scope lpos) X.env; standAt pos; pure v)]) _ _ s1
      have hfree2 : ∀ y ∈ scope.names, y.2 = .free → ∃ c, X.env.cells.lookup y.1 = some c := fun y hy e => (hfree y hy e).elim (fun z => I1.ok.has _ (.inl z)) fun z => I1.ok.has _ (.inr z)
      refine wpAny_evalAll_cons (wpAny_bind (lam_make2 I1 TB hcode hmT hu hT hdef hfree2 fun f c' pm ctv H2 s2 I2 eN T2 hf hfn hfrs hco => wpAny_bind (wpAny_standAt (wpAny_pure ?_))))
      refine wpAny_evalAll_nil ?_
      obtain ⟨q1, q2⟩ := q H2 eN T2
      have nfL : f ≠ X.env.locals := fun z => by
        obtain ⟨m, ⟨oL, es, ep, hoL, hdL, _⟩, _⟩ := I2.loc
        rw [← z, hf] at hoL
        cases hoL
        cases hdL
      have nfs : f ∉ X.fs := fun z => hfrs (by
        rcases I2.ok.stk with e | ⟨e, _⟩
        · rw [e]
          exact z
        · rw [e]
          obtain ⟨en, h1, h2⟩ := List.mem_filterMap.mp (show f ∈ X.outer.filterMap (·.frame) from z)
          exact List.mem_filterMap.mpr ⟨en, List.mem_cons_of_mem _ h1, h2⟩)
      have I3 : Inv X ((f, _) :: pins) σ H2 s2 := pin_more I2 hf hfn nfL nfs fun v z => by cases z
      have fin := min_call (f := f) (Q := Q) I3 hr (extN_seq eN hl) hne (kf := kf) (fun j x pins' H3 s3 u hx hp J hS ru => ?_) (fun i x H3 hx hb hS => q2 i x H3 hx hb hS)
      · refine wpAny_mono fin (fun u s4 hu => ?_) fun _ _ z => z
        obtain ⟨v, H4, J4, rv, qv⟩ := hu
        exact ⟨v, H4, J4.pins_of fun p hp => J4.pin p (List.mem_append_right _ (List.mem_cons_of_mem _ hp)), rv, qv⟩
      · have hfo := (J.pin (f, _) (List.mem_append_right _ (hp _ (List.mem_cons_self ..)))).1
        have C := cells_of J (Caps.made J.ok hfree hfr hjs)
        refine wpAny_mono (lam_run (F := ⟨"<lambda>", X.env.qual ++ "<lambda>", params, [], scope, cloFrom X.env.cells scope.names [], c'⟩) (k := k) (tb := tb) (Q := fun v H4 => v = .int (kf j) ∧ Same H3 H4) J ⟨hr.in1, rfl⟩ hfo (hS _ _ hco) S C (.cons ru .nil) rfl (hbind _ _ _ _ _ _)
          (fun hr2 => hbody _ _ _ _ _ _ rfl hr2) (q1 j x H3 hx hS)) (fun v s4 hv => ?_) fun _ _ z => z
        obtain ⟨v', H4, J4, rv, rfl, qv⟩ := hv
        obtain ⟨t, rfl⟩ := rv
        exact ⟨t, H4, rfl, J4, qv⟩
  | [], _, q1 => exact q1.elim
  | _ :: _ :: _, _, q1 => exact q1.elim
end Mk
set_option Elab.async false
set_option linter.all false
set_option maxRecDepth 100000
set_option maxHeartbeats 2000000
namespace Mk
open PySem PySem.Spec PyProof.Rows L2 LamX
open PySem.W (WData Codec OpenSpec Well WellAll ReadsW ReadsAllW)
/-! the end of a row of a specification, where some def's table of code objects may grow -/
def withT (H : Hp) (ts : List Addr) : Hp := fun b => if b ∈ ts then some (.tbl #[]) else H b
theorem withT_in {H : Hp} {ts : List Addr} {b : Addr} (h : b ∈ ts) : withT H ts b = some (.tbl #[]) := if_pos h
theorem withT_out {H : Hp} {ts : List Addr} {b : Addr} (h : b ∉ ts) : withT H ts b = H b := if_neg h
theorem spec_callT {P : Program} {w : World} {K : PySem.W.Frag} {mg mb : Str → Option Value} {CX : CXT} {k : Nat} {fa : Addr} {fd : FuncData} {ps : List Str} {sp : Sp} {s1 : Shared} {vals : List Value} {ds : List WData} {R : PySem.W.WRecords} {cl : Str → Option Addr} {d0 : WData} {cs : List (Addr × Addr)}
    (KX : K.In s1.heap) (hns : s1.heap.Ns mainGlobals mg) (hb : s1.heap.Ns builtinsNs mb) (hbb : ∀ x : Str, x ≠ "__name__" → mb x = bootBuiltins x) (hlim : s1.heap.NoLimit) (hg : s1.gens = #[])
    (hT : ∀ p ∈ cs, s1.heap.get? p.2 = some { cls := .none, data := .fields #[] }) (nT : ∀ p ∈ cs, K.lookup p.2 = none) (C : ∀ p ∈ cs, PySem.W.CodeHd s1.heap p.1 p.2)
    (hbm : ∃ (bm : Addr) (ob : Obj), mg "__builtins__" = some (.ref bm) ∧ bm ≠ builtinsNs ∧ s1.heap.get? bm = some ob ∧ ob.cls = .type "module" ∧ ob.dict = some builtinsNs ∧ ob.data = .plain)
    (hwl : WellAll w.params s1.heap vals ds) (hpl : plWs ds = true) (hwt : ∀ d ∈ ds, d.weight ≤ 1048576) (hr : Room k callerA)
    (F : ∀ base : Heap, K.In base → base.Ns mainGlobals mg → (∀ p ∈ cs, TabB base mg p.1 p.2) → FnOk P w K mg base CX k fa fd ps sp) (hbind : ∀ (s : Shared) (us : List Value), us.length = ps.length → BindsTo s fd ⟨us, []⟩ (ps.zip us)) (hlen : ds.length = ps.length)
    (hsp : ∀ (H0 H : Hp) (xs : List V), Same H0 H → (∀ p ∈ cs, H p.2 = some (.tbl #[])) → DwAll K H0 xs ds → sp xs H (fun v H' => Dw K H' v d0) fun _ _ _ => False)
    (hCX : ∀ H e s', CX [] H s1 (fun _ _ _ => False) e s' → False) :
    codeAny (model P w) callerA (.call (.ref fa) ⟨vals, []⟩) (fun r s' => ∃ u as, r = .ok (.ret u) ∧ ReadsW R cl s'.heap u d0 as ∧ OldK s1.heap s'.heap ∧ s'.os = s1.os ∧ AllBare s'.gens) s1 := by
  obtain ⟨A, ho, ar⟩ := area_all ds vals hwl hpl hwt
  have hO0 : OnlyF (argH K s1.heap A) := argH_only ar
  have hok0 : HOk P w (argH K s1.heap A) s1.heap := argH_ok ar
  have hS := dw_all KX ar ds vals hwl hpl ho
  have hV := vals_toV ho
  have hK0 : ∀ b u, argH K s1.heap A b = some u → K.lookup b = none := fun b u q => (argH_is ar q).1
  have seq0 : ∀ b u, argH K s1.heap A b = some u → ∃ o vs, s1.heap.get? b = some o ∧ o.data = .seq vs := fun b u q => by
    obtain ⟨_, vs, _, _, ⟨e2, _⟩ | ⟨e2, _⟩⟩ := argH_is ar q
    · exact ⟨_, _, e2, rfl⟩
    · exact ⟨_, _, e2, rfl⟩
  generalize argH K s1.heap A = H0 at hO0 hok0 hS hK0 seq0
  have isT : ∀ b : Addr, b ∈ cs.map (·.2) → s1.heap.get? b = some { cls := .none, data := .fields #[] } := fun b hb => by
    obtain ⟨p, hp, e⟩ := List.mem_map.mp hb
    rw [← e]
    exact hT p hp
  have memT : ∀ p ∈ cs, p.2 ∈ cs.map (·.2) := fun p hp => List.mem_map.mpr ⟨p, hp, rfl⟩
  have nH0 : ∀ b, b ∈ cs.map (·.2) → H0 b = none := fun b hb => by
    cases q : H0 b with
    | none => rfl
    | some u =>
      obtain ⟨o, vs, e, d⟩ := seq0 b u q
      rw [isT b hb] at e
      cases e
      cases d
  have hsame : Same H0 (withT H0 (cs.map (·.2))) := fun b o e => by
    rw [withT_out fun z => by rw [nH0 b z] at e; cases e]
    exact e
  have hHT : ∀ p ∈ cs, withT H0 (cs.map (·.2)) p.2 = some (.tbl #[]) := fun p hp => withT_in (memT p hp)
  have hok : HOk P w (withT H0 (cs.map (·.2))) s1.heap := fun b u e => by
    by_cases hb : b ∈ cs.map (·.2)
    · rw [withT_in hb] at e
      cases e
      exact isT b hb
    · rw [withT_out hb] at e
      exact (hok0 b u e).stay (fun _ _ _ q => q) (fun c q => hsame c _ q) fun c xs q => hsame c _ q
  have hO : ∀ b u, withT H0 (cs.map (·.2)) b = some u → b ∈ cs.map (·.2) ∨ ∃ o v, u = .frz o v := fun b u e => by
    by_cases hb : b ∈ cs.map (·.2)
    · exact .inl hb
    · rw [withT_out hb] at e
      rcases hO0 b with z | ⟨o, v, z⟩
      · rw [z] at e
        cases e
      · rw [z] at e
        cases e
        exact .inr ⟨o, v, rfl⟩
  have noD : ∀ {b : Addr} {o : Obj}, s1.heap.get? b = some o → (∀ vs n, o.data ≠ .seq vs n) → o.data ≠ .fields #[] → withT H0 (cs.map (·.2)) b = none := fun {b o} e h1 h2 => by
    by_cases hb : b ∈ cs.map (·.2)
    · rw [isT b hb] at e
      cases e
      exact (h2 rfl).elim
    · rw [withT_out hb]
      cases q : H0 b with
      | none => rfl
      | some u =>
        obtain ⟨o2, vs, e2, d⟩ := seq0 b u q
        rw [e] at e2
        cases e2
        exact (h1 _ _ d).elim
  have noA : ∀ {b : Addr} {o : Obj} {es : Array DictEntry} {ep : Nat}, s1.heap.get? b = some o → o.data = .dict es ep → withT H0 (cs.map (·.2)) b = none := fun {b o es ep} e d => by
    refine noD e (fun vs n z => ?_) fun z => ?_
    · rw [d] at z
      cases z
    · rw [d] at z
      cases z
  have nK : ∀ b o, K.lookup b = some o → withT H0 (cs.map (·.2)) b = none := fun b o e => by
    by_cases hb : b ∈ cs.map (·.2)
    · obtain ⟨p, hp, ep⟩ := List.mem_map.mp hb
      rw [← ep, nT p hp] at e
      cases e
    · rw [withT_out hb]
      cases q : H0 b with
      | none => rfl
      | some u =>
        rw [hK0 b u q] at e
        cases e
  generalize withT H0 (cs.map (·.2)) = H at hsame hHT hok hO noD noA nK
  have base_of : ∀ {b : Addr} {o : Obj}, s1.heap.get? b = some o → H b = none → (hidT s1.heap H).get? b = some o := fun e n => hidT_get e n
  have nsK : ∀ {b : Addr} {m : Str → Option Value}, s1.heap.Ns b m → (hidT s1.heap H).Ns b m := fun {b m} ⟨o, es, ep, e, d, r⟩ => ⟨o, es, ep, base_of e (noA e d), d, r⟩
  have hKb : K.In (hidT s1.heap H) := fun b o e => base_of (KX b o e) (nK b o e)
  have hM : L2.Mod K mg (hidT s1.heap H) := ⟨hKb, nsK hns, ⟨mb, nsK hb, hbb⟩, let ⟨mc, h1, h2⟩ := hlim; ⟨mc, nsK h1, h2⟩⟩
  have TB : ∀ p ∈ cs, TabB (hidT s1.heap H) mg p.1 p.2 := fun p hp => by
    have hTp := hT p hp
    refine ⟨?_, ?_, fun z => ?_⟩
    · obtain ⟨o, us, file, tf, flags, tg, inF, text, tt, e1, r1, r2, r3, r4, r5, r6, r7, r8, hne⟩ := C p hp
      refine ⟨o, us, file, tf, flags, tg, inF, text, tt, base_of e1 (noD e1 (fun vs n z => ?_) fun z => ?_), r1, r2, r3, r4, r5, r6, r7, r8, hne⟩
      · rw [r2] at z
        cases z
      · rw [r2] at z
        cases z
        simp at r3
    · obtain ⟨bm, ob, b1, b2, b3, b4, b5, b6⟩ := hbm
      have nG : bm ≠ mainGlobals := fun q => by
        obtain ⟨o, es, ep, e, hd, _⟩ := hns
        rw [q, e] at b3
        cases b3
        rw [hd] at b6
        cases b6
      have nP : bm ≠ p.2 := fun q => by
        rw [q, hTp] at b3
        cases b3
        cases b6
      refine ⟨bm, ob, b1, b2, nG, nP, base_of b3 (noD b3 (fun vs n z => ?_) fun z => ?_), b4, b5, b6⟩
      · rw [b6] at z
        cases z
      · rw [b6] at z
        cases z
    · obtain ⟨o, es, ep, e, hd, _⟩ := hns
      rw [z, hTp] at e
      cases e
      cases hd
  have e0 : Env0 P w K mg (hidT s1.heap H) callerA [] s1 H := ⟨rfl, hM, fun b o e => of_hidT e, Nat.le_of_eq (hidT_size _ _), trivial, fun b hb => absurd (show b ∈ ([] : List Addr) from hb) (by simp), hok, .of_eq hg⟩
  have hl : vals.length = ps.length := by rw [wellAll_len hwl]; exact hlen
  refine codeAny_mono ((F _ hKb (nsK hns) TB).run callerA [] s1 H ⟨vals, []⟩ vals (vals.map toV) _ _ hr e0 (hbind s1 vals hl) hV (hsp H0 H _ hsame hHT hS)) fun r s' x => ?_
  cases r with
  | error e => exact (hCX H e s' x).elim
  | ok fl =>
    cases fl with
    | next => exact False.elim x
    | brk => exact False.elim x
    | cont => exact False.elim x
    | ret u =>
      obtain ⟨v, H', os, bare, un, hok', r', q⟩ := x
      have key : ∀ b o, b ∉ cs.map (·.2) → s1.heap.get? b = some o → s'.heap.get? b = some o := fun b o nb e => by
        cases q2 : H b with
        | none => exact un.keep b o e q2 (by intro z; exact absurd (show b ∈ ([] : List Addr) from z) (by simp)) (by simp)
        | some u2 =>
          rcases hO b u2 q2 with z | ⟨ob, u3, z⟩
          · exact absurd z nb
          · subst z
            have z2 := un.frzs b ob _ q2
            obtain ⟨e1, _⟩ := hok b _ q2
            obtain ⟨e2, _⟩ := hok' b _ z2
            rw [e] at e1
            cases e1
            exact e2
      have grown : ∀ p ∈ cs, ∃ more : Array Value, s'.heap.get? p.2 = some { cls := .none, data := .fields more } := fun p hp => by
        obtain ⟨more, z⟩ := un.tbls p.2 #[] (hHT p hp)
        exact ⟨_, hok' p.2 _ z⟩
      have KX' : K.In s'.heap := fun b o e => key b o (fun z => by
        obtain ⟨p, hp, ep⟩ := List.mem_map.mp z
        rw [← ep, nT p hp] at e
        cases e) (KX b o e)
      obtain ⟨as, hrd⟩ := Dw.reads (R := R) (cl := cl) hok' KX' d0 v u q r'
      refine ⟨u, as, rfl, hrd, ⟨fun b o e => ?_, fun b o e => ?_⟩, os, bare⟩
      · by_cases hb : b ∈ cs.map (·.2)
        · obtain ⟨p, hp, ep⟩ := List.mem_map.mp hb
          obtain ⟨more, hm⟩ := grown p hp
          rw [← ep] at e ⊢
          rw [hT p hp] at e
          cases e
          exact .inr (.inl ⟨((C p hp).tab (hT p hp)).isCodeTable, rfl, #[], more, rfl, by rw [Array.empty_append]; exact hm⟩)
        · exact .inl (key b o hb e)
      · by_cases hb : b ∈ cs.map (·.2)
        · obtain ⟨p, hp, ep⟩ := List.mem_map.mp hb
          obtain ⟨more, hm⟩ := grown p hp
          rw [← ep]
          exact ⟨_, hm⟩
        · exact ⟨o, key b o hb e⟩
/-- what is known of the row's def at the head's heap h -/
def SpecAt (r : OpenSpec) (w : World) (CX : CXT) (k : Nat) (ps : List Str) (mg : Str → Option Value) (fa : Addr) (h : Heap) : Prop :=
  ∃ (K : PySem.W.Frag) (fd : FuncData) (cs : List (Addr × Addr)) (sp : Sp), K.In h ∧ (∀ p ∈ cs, h.get? p.2 = some { cls := .none, data := .fields #[] }) ∧ (∀ p ∈ cs, K.lookup p.2 = none) ∧ (∀ p ∈ cs, PySem.W.CodeHd h p.1 p.2) ∧
    (∀ (s : Shared) (us : List Value), us.length = ps.length → BindsTo s fd ⟨us, []⟩ (ps.zip us)) ∧
    (∀ base : Heap, K.In base → base.Ns mainGlobals mg → (∀ p ∈ cs, TabB base mg p.1 p.2) → FnOk r.prog w K mg base CX k fa fd ps sp) ∧
    ∀ (H0 H : Hp) (xs : List V) (a : Codec.denoteAll r.args), Same H0 H → (∀ p ∈ cs, H p.2 = some (.tbl #[])) → Codec.withinAll r.args a = true → Codec.app r.args r.asked a = true → DwAll K H0 xs (Codec.encAll r.args a) →
      sp xs H (fun v H' => Dw K H' v (r.ret.enc (Codec.app r.args r.f a))) fun _ _ _ => False
theorem walk_specT {r : OpenSpec} {k : Nat} {q : Program} {loose : List Str} {XP : (Str → Option Value) → Heap → Prop} {YP : World → Heap → Prop} {d : DefRec} {CX : CXT} {ps : List Str}
    (hwell : r.wellSaid = true) (hdf : d.params.defaults = []) (hlen : r.args.length = ps.length) (hr : Room k callerA)
    (F : ∀ (w : World) (mg : Str → Option Value) (fa : Addr) (h : Heap), YP w h → h.Ns mainGlobals mg → mg d.name = some (.ref fa) → SpecAt r w CX k ps mg fa h)
    (hCX : ∀ (H : Hp) (s : Shared) (e : Value) (s' : Shared), CX [] H s (fun _ _ _ => False) e s' → False) :
    PySem.W.WalkOS q loose XP YP r d [] (fun f vs => PySem.call f vs) := by
  intro w s0 s1 mg mb G Y fa o pm cd doc dV kV ho hd hcd hD hmg hg args vals as hpre hlay hrd hwl hlo
  obtain ⟨a, e1, e2⟩ := PySem.W.os_pre_some hpre
  obtain ⟨e3, hwi⟩ := Codec.encAll_of_decAll r.args args a e1
  subst e3
  obtain ⟨K, fd, cs, sp, KX, hT, nT, C, hb, hF, hsp⟩ := F w mg fa _ Y G.T.g hmg
  refine PySem.W.enter_call (codeAny_mono (spec_callT (R := []) (cl := classAt s0.heap) (d0 := r.ret.enc (Codec.app r.args r.f a)) KX G.T.g G.T.b G.T.builtins G.T.nolimit hg hT nT C G.T.bmain hwl (pl_encAll _ _) (layable_weight hlay) hr hF hb (by rw [encAll_len]; exact hlen)
    (fun H0 H xs hS hH hD => hsp H0 H xs a hS hH hwi e2 hD) fun H e s' => hCX H s1 e s') fun r' s' hq => ?_)
  obtain ⟨u, as', rfl, h1, h2, h3, h4⟩ := hq
  exact ⟨.inl ⟨u, _, as', rfl, fun _ => rfl, h1, (OpenSpec.post_iff hwell hwi _ _).mpr rfl, fun z => Bool.noConfusion (show false = true from z)⟩, h2, h3, h4⟩
end Mk
set_option Elab.async false
set_option maxRecDepth 100000
set_option maxHeartbeats 2000000
namespace Mk
open PySem PySem.Spec PyProof.Rows L2
def top (i : Nat) : Stmt := PySem.Challenge.pw_treeofcuts_s01_answers.main.body.getD i (.Pass ⟨0, 0, 0, 0⟩)
def dd (p : Str × Option Str) (x q : Str) (st : Stmt) : He.DefD := { at_ := p, name := x, qual := q, params := defArgs st, body := defBody st, scope := defScope st }
def gd (x : Str) (i : Nat) : He.DefD := dd (x, none) x x (top i)
def md (c m q : Str) (i j : Nat) : He.DefD := dd (c, some m) m q (inClass (top i) j)
def fns : List He.DefD := [gd "holds" 3, gd "edge_of" 4, gd "least_edged" 5, gd "cut_of" 6, gd "weakest_side" 7,
  md "Tree" "__init__" "Tree.__init__" 9 0, md "Tree" "part_from_above" "Tree.part_from_above" 9 1, md "Tree" "least_step" "Tree.least_step" 9 2,
  gd "refused" 16, gd "wrong_pair" 17, gd "least_free" 18,
  md "Network" "__init__" "Network.__init__" 19 0, md "Network" "start_anew" "Network.start_anew" 19 1, md "Network" "add_line" "Network.add_line" 19 2, md "Network" "drop_line" "Network.drop_line" 19 3,
  md "Network" "widen_line" "Network.widen_line" 19 4, md "Network" "between" "Network.between" 19 5, md "Network" "whole_tree" "Network.whole_tree" 19 6, md "Network" "told_between" "Network.told_between" 19 7,
  md "Network" "edge" "Network.edge" 19 8, md "Network" "weakest" "Network.weakest" 19 9, gd "answer_of" 30, gd "answers" 31]
def fas : List He.Fa := [.glo "holds", .glo "edge_of", .glo "least_edged", .glo "cut_of", .glo "weakest_side", .glo "Tree", .glo "refused", .glo "wrong_pair", .glo "least_free", .glo "Network", .glo "answer_of", .glo "GIVEN_COUNTS",
  .free "min", .free "list", .free "range", .free "len",
  .int "PLACES" 8, .int "SIDES" 256, .int "MOST_LINES" 24, .int "MOST_THROUGH" 1000, .int "NO_SUCH_LINE" 2, .int "WRONG_VALUE" 22, .int "NO_ROOM" 28,
  .int "TR_START" 0, .int "TR_LINE" 1, .int "TR_DROP" 2, .int "TR_WIDE" 3, .int "TR_BETWEEN" 4, .int "TR_TREE" 5, .int "TR_TOLD" 6, .int "TR_EDGE" 7,
  .cls "Tree", .cls "Network", .noat "Tree" "above", .noat "Tree" "weights", .noat "Network" "lines",
  .meth "Tree" "part_from_above", .meth "Tree" "least_step", .meth "Network" "start_anew", .meth "Network" "add_line", .meth "Network" "drop_line", .meth "Network" "widen_line", .meth "Network" "between",
  .meth "Network" "whole_tree", .meth "Network" "told_between", .meth "Network" "edge", .meth "Network" "weakest", .mkr "Tree", .mkr "Network", .glo "answers"]
def given : List He.Dv := [.int 0, .int 3, .int 1, .int 2, .int 2, .int 0, .int 2, .int 1, .int 0]
def exB (K : PySem.W.Frag) : Bool := He.tupB K "GIVEN_COUNTS" given
end Mk
set_option Elab.async false
set_option linter.all false
set_option maxRecDepth 100000
set_option maxHeartbeats 2000000
namespace Mk
open PySem PySem.Spec PyProof.Rows L2 LamX NdefX
/-! ### what stands in the heap -/
def vN (n : Nat) : V := .int (n : Int)
def lV (l : List Nat) : List V := l.map vN
def tupOf (l : Km361.Line) : List V := [vN l.a, vN l.b, vN l.most]
def kvOf (D : Dn) : List (Key × V) := D.map fun p => (Sum.inl (p.1 : Int), V.ref p.2.2)
structure LinesAt (H : Hp) (d : Addr) (D : Dn) : Prop where
  dict : H d = some (.dK (kvOf D))
  tups : ∀ p ∈ D, H p.2.2 = some (.tup (tupOf p.2.1))
theorem LinesAt.ext {H H' : Hp} {d : Addr} {D : Dn} (e : ExtN H H') (L : LinesAt H d D) : LinesAt H' d D :=
  ⟨e _ _ L.dict (fun _ z => nomatch z), fun p hp => e _ _ (L.tups p hp) (fun _ z => nomatch z)⟩
theorem extN_of {H H' : Hp} (e : Same H H') : ExtN H H' := fun b o h _ => e b o h
theorem tabs_of {T : List (Addr × Str)} {H H' : Hp} (t : Tabs T H) (e : Same H H') : Tabs T H' := t.ext e
/-- what the text has of names, classes, constants -/
structure Tx (K : PySem.W.Frag) (mg : Str → Option Value) : Prop where
  gHolds : mg "holds" = some (.ref (He.ga K "holds"))
  gEdge : mg "edge_of" = some (.ref (He.ga K "edge_of"))
  gLeast : mg "least_edged" = some (.ref (He.ga K "least_edged"))
  gCut : mg "cut_of" = some (.ref (He.ga K "cut_of"))
  gWeak : mg "weakest_side" = some (.ref (He.ga K "weakest_side"))
  gTree : mg "Tree" = some (.ref (He.ga K "Tree"))
  gRef : mg "refused" = some (.ref (He.ga K "refused"))
  gWrong : mg "wrong_pair" = some (.ref (He.ga K "wrong_pair"))
  gFree : mg "least_free" = some (.ref (He.ga K "least_free"))
  gNet : mg "Network" = some (.ref (He.ga K "Network"))
  gAns : mg "answer_of" = some (.ref (He.ga K "answer_of"))
  gGiven : mg "GIVEN_COUNTS" = some (.ref (He.ga K "GIVEN_COUNTS"))
  min : mg "min" = none
  list : mg "list" = none
  range : mg "range" = none
  len : mg "len" = none
  places : ∃ t, mg "PLACES" = some (.int 8 t)
  sides : ∃ t, mg "SIDES" = some (.int 256 t)
  mlines : ∃ t, mg "MOST_LINES" = some (.int 24 t)
  mthrough : ∃ t, mg "MOST_THROUGH" = some (.int 1000 t)
  nsl : ∃ t, mg "NO_SUCH_LINE" = some (.int 2 t)
  wrv : ∃ t, mg "WRONG_VALUE" = some (.int 22 t)
  nor : ∃ t, mg "NO_ROOM" = some (.int 28 t)
  t0 : ∃ t, mg "TR_START" = some (.int 0 t)
  t1 : ∃ t, mg "TR_LINE" = some (.int 1 t)
  t2 : ∃ t, mg "TR_DROP" = some (.int 2 t)
  t3 : ∃ t, mg "TR_WIDE" = some (.int 3 t)
  t4 : ∃ t, mg "TR_BETWEEN" = some (.int 4 t)
  t5 : ∃ t, mg "TR_TREE" = some (.int 5 t)
  t6 : ∃ t, mg "TR_TOLD" = some (.int 6 t)
  t7 : ∃ t, mg "TR_EDGE" = some (.int 7 t)
  cTree : Cls K (He.ga K "Tree")
  cNet : Cls K (He.ga K "Network")
  aAbove : NoAttr K (He.ga K "Tree") "above"
  aWeights : NoAttr K (He.ga K "Tree") "weights"
  aLines : NoAttr K (He.ga K "Network") "lines"
section
variable {P : Program} {w : World} {K : PySem.W.Frag} {mg : Str → Option Value} {base : Heap}
/-! ### holds -/
def spHolds : Sp := fun vs H Q _ => ∃ s p : Nat, vs = [vN s, vN p] ∧ Q (.bl (s.testBit p)) H
theorem shr_nat (s p : Nat) : (s : Int) / 2 ^ ((p : Int)).toNat = ((s / 2 ^ p : Nat) : Int) := by
  rw [Int.toNat_natCast, Int.natCast_ediv]
  congr 1
theorem and_one (x : Nat) : Builtin.bitAnd (x : Int) 1 = ((x % 2 : Nat) : Int) := by
  rw [bitAnd_pp (Int.natCast_nonneg _) (by decide), Int.toNat_natCast]
  show ((x &&& 1 : Nat) : Int) = _
  rw [Nat.and_one_is_mod]
theorem holds_bit (s p : Nat) : decide (V.int (Builtin.bitAnd ((s : Int) / 2 ^ ((p : Int)).toNat) 1) = V.int 1) = s.testBit p := by
  rw [shr_nat, and_one, Nat.testBit_eq_decide_div_mod_eq]
  apply decide_eq_decide.mpr
  constructor
  · intro h
    have := V.int.inj h
    omega
  · intro h
    rw [h]
    rfl
theorem scHolds : FnScope ["side", "place"] ["side", "place"] (defScope (top 3)) := ⟨rfl, rfl, rfl, by decide +kernel, rfl, by decide +kernel, by decide +kernel⟩
theorem ok_holds {f : Addr} {fd : FuncData} (F : Fun K "holds" "holds" (top 3) f fd) : FnOk P w K mg base CX0 1 f fd ["side", "place"] spHolds := by
  refine F.ok scHolds (fun vs H Q E h => ?_) (fun cdv A outer s H vs Q E hr h => ?_)
  · obtain ⟨s, p, rfl, _⟩ := h
    rfl
  · obtain ⟨n, p, rfl, k⟩ := h
    refine ⟨_, pss_one (ps_ret (pe_cmpR op_eq (pe_op op_and (pe_op op_shr (pv 0) (pv 1)) pe_int) pe_int (nomark _))), ?_⟩
    refine ⟨_, rfl, _, rfl, _, _, rfl, rfl, Int.natCast_nonneg _, _, _, rfl, rfl, rfl, ?_⟩
    rw [holds_bit]
    exact k
/-! ### edge_of -/
def spEdge : Sp := fun vs H Q _ => ∃ (d : Addr) (D : Dn) (s : Nat), vs = [.ref d, vN s] ∧ LinesAt H d D ∧ ∀ H', Same H H' → Q (vN (edgeD D s)) H'
theorem scEdge : FnScope ["lines", "side", "through", "a", "b", "most"] ["lines", "side"] (defScope (top 4)) := ⟨rfl, rfl, rfl, by decide +kernel, rfl, by decide +kernel, by decide +kernel⟩
theorem xor_two (x y : Nat) : (x ^^^ y) % 2 = (x % 2 + y % 2) % 2 := by
  have h := Nat.xor_mod_two_pow (a := x) (b := y) (n := 1)
  rw [Nat.pow_one] at h
  rw [h]
  have h1 := Nat.mod_two_eq_zero_or_one x
  have h2 := Nat.mod_two_eq_zero_or_one y
  rcases h1 with h1 | h1 <;> rcases h2 with h2 | h2 <;> rw [h1, h2] <;> rfl
theorem part_bit (s a b : Nat) : (Builtin.bitAnd (Builtin.bitXor ((s : Int) / 2 ^ ((a : Int)).toNat) ((s : Int) / 2 ^ ((b : Int)).toNat)) 1 != 0) = !(s.testBit a == s.testBit b) := by
  rw [shr_nat, shr_nat, Bits.bitXor_pp (Int.natCast_nonneg _) (Int.natCast_nonneg _), Int.toNat_natCast, Int.toNat_natCast, and_one, xor_two, Nat.testBit_eq_decide_div_mod_eq, Nat.testBit_eq_decide_div_mod_eq]
  have h1 := Nat.mod_two_eq_zero_or_one (s / 2 ^ a)
  have h2 := Nat.mod_two_eq_zero_or_one (s / 2 ^ b)
  rcases h1 with h1 | h1 <;> rcases h2 with h2 | h2 <;> rw [h1, h2] <;> rfl
theorem edge_take {D : Dn} {i : Nat} {p : Nat × Km361.Line × Nat} (h : D[i]? = some p) (s : Nat) : edgeD (D.take (i + 1)) s = edgeD (D.take i) s + wgt s p.2.1 := by
  unfold edgeD
  rw [List.take_succ, h, List.map_append, List.sum_append]
  simp
theorem ok_edge {f : Addr} {fd : FuncData} (F : Fun K "edge_of" "edge_of" (top 4) f fd) : FnOk P w K mg base CX0 1 f fd ["lines", "side"] spEdge := by
  refine F.ok scEdge (fun vs H Q E h => ?_) (fun cdv A outer s H vs Q E hr h => ?_)
  · obtain ⟨d, D, s, rfl, _⟩ := h
    rfl
  · obtain ⟨d, D, n, rfl, L, k⟩ := h
    refine ⟨_, pss_cons (ps_set (i := 2) scEdge.nd rfl (Or.inl rfl) pe_int)
      (pss_cons (ps_lock (ps_for PassesOwn.never rfl (pi_values (pv 0))
        (pg_tup rfl (pgs_cons (pg_name (i := 3) scEdge.nd rfl (Or.inl rfl)) (pgs_cons (pg_name (i := 4) scEdge.nd rfl (Or.inl rfl)) (pgs_cons (pg_name (i := 5) scEdge.nd rfl (Or.inl rfl)) pgs_nil))))
        (pss_one (ps_if (pt_truth (pe_op op_and (pe_op op_xor (pe_op op_shr (pv 1) (pv 3)) (pe_op op_shr (pv 1) (pv 4))) pe_int) (by intro _; rfl))
          (pss_one (ps_aug (i := 2) scEdge.nd rfl (Or.inl rfl) (pv 5) ip_add)) pss_nil))))
      (pss_one (ps_ret (pv 2)))), ?_⟩
    refine ⟨d, _, L.dict, trivial, fun od => ?_⟩
    refine ⟨_, rfl, d, od, kvOf D, rfl, upd_same, ?_⟩
    refine for_it (walk_values (d := d) (o := od) (kvs := kvOf D)) (fun i σ H2 => ∃ x y z : Option V, σ = [some (.ref d), some (vN n), some (vN (edgeD (D.take i) n)), x, y, z] ∧ H2 = upd H d (.frz od (.dK (kvOf D))))
      ⟨none, none, none, rfl, rfl⟩ (fun i σ H2 _ ⟨_, _, _, _, e⟩ => by rw [e]; exact upd_same) ?_ ?_
    · rintro i v σ H2 H3 hi ⟨x, y, z, rfl, rfl⟩ ⟨rfl, key, hk⟩
      unfold kvOf at hk
      rw [List.getElem?_map] at hk
      cases hp : D[i]? with
      | none =>
        rw [hp] at hk
        cases hk
      | some p =>
        rw [hp] at hk
        cases hk
        have ht := L.tups p (List.mem_of_getElem? hp)
        have hne : p.2.2 ≠ d := ne_of ht L.dict (by intro z; cases z)
        refine ⟨_, _, rfl, SqT.of (by rw [upd_ne hne]; exact ht), rfl, _, _, rfl, _, _, rfl, _, _, rfl, rfl, ?_⟩
        refine ⟨_, rfl, _, rfl, _, _, rfl, rfl, Int.natCast_nonneg _, _, rfl, _, rfl, _, _, rfl, rfl, Int.natCast_nonneg _, _, _, rfl, rfl, _, _, rfl, rfl, _, rfl, ?_⟩
        rw [part_bit]
        have et := edge_take hp n
        unfold wgt at et
        cases hb : n.testBit p.2.1.a == n.testBit p.2.1.b with
        | true =>
          rw [hb, if_pos rfl] at et
          refine iteF ?_
          exact ⟨some (vN p.2.1.a), some (vN p.2.1.b), some (vN p.2.1.most), by rw [et]; rfl, rfl⟩
        | false =>
          rw [hb, if_neg Bool.false_ne_true] at et
          refine iteT ?_
          refine ⟨_, rfl, _, rfl, _, _, rfl, rfl, some (vN p.2.1.a), some (vN p.2.1.b), some (vN p.2.1.most), ?_, rfl⟩
          rw [et]
          rfl
    · rintro σ H2 ⟨x, y, z, rfl, rfl⟩
      refine ⟨upd_same, _, rfl, ?_⟩
      have e : D.take (kvOf D).length = D := by
        unfold kvOf
        rw [List.length_map, List.take_length]
      rw [e]
      refine k _ fun b o h => ?_
      rw [upd_upd]
      by_cases hb : b = d
      · subst hb
        rw [upd_same, ← h, L.dict]
      · rw [upd_ne hb]
        exact h
end
end Mk
set_option Elab.async false
set_option linter.all false
set_option maxRecDepth 100000
set_option maxHeartbeats 2000000
namespace Mk
open PySem PySem.Spec PyProof.Rows L2 LamX NdefX
/-! ### how a def that is called stands -/
def FunB (K : PySem.W.Frag) (x q : Str) (st : Stmt) (f : Addr) (ps : List Str) : Prop := ∃ fd, Fun K x q st f fd ∧ Binds K fd ps []
def Cal (P : Program) (w : World) (K : PySem.W.Frag) (mg : Str → Option Value) (base : Heap) (k : Nat) (f : Addr) (ps : List Str) (sp : Sp) : Prop := ∃ fd, FnOk P w K mg base CX0 k f fd ps sp ∧ Binds K fd ps [] ∧ PySem.W.keepIn K (.ref f) = true
theorem cal_of {P : Program} {w : World} {K : PySem.W.Frag} {mg : Str → Option Value} {base : Heap} {x q : Str} {st : Stmt} {f : Addr} {ps : List Str} {k : Nat} {sp : Sp} (F : FunB K x q st f ps) (h : ∀ fd, Fun K x q st f fd → FnOk P w K mg base CX0 k f fd ps sp) : Cal P w K mg base k f ps sp := by
  obtain ⟨fd, F, b⟩ := F
  exact ⟨fd, h fd F, b, F.kp⟩
theorem pe_ci {X : Cx} {x : Str} {i : Int} {t : Tok} {pos : Pos} (hg : Gl X x) (hm : X.mg x = some (.int i t)) (hd : (x == ("__debug__" : Str)) = false := by decide) : PE X (.Name x pos) (tC (.int i)) := pe_glob hg hm ⟨t, rfl⟩ hd
/-! ### the one table that grows -/
def lp : He.Defn := ("least_edged", none)
abbrev lamQ : Str := (envOfC "least_edged" (defScope (top 5)) 0 0 .none).qual ++ "<lambda>"
def tabT (K : PySem.W.Frag) : List (Addr × Str) := [((He.cT K lp).2, lamQ)]
section
variable {P : Program} {w : World} {K : PySem.W.Frag} {mg : Str → Option Value} {base : Heap}
/-! ### least_edged -/
def spLeast (K : PySem.W.Frag) : Sp := fun vs H Q _ => ∃ (d l : Addr) (D : Dn) (S : List Nat), vs = [.ref d, .ref l] ∧ LinesAt H d D ∧ SqL K H l (lV S) ∧ 0 < S.length ∧ S.Pairwise (· < ·) ∧ Tabs (tabT K) H ∧
  ∀ n H', Least (edgeD D) (fun m => m ∈ S) n → ExtN H H' → Tabs (tabT K) H' → Q (vN n) H'
theorem scLeast : FnScope ["lines", "sides"] ["lines", "sides"] (defScope (top 5)) := ⟨rfl, rfl, rfl, by decide +kernel, rfl, by decide +kernel, by decide +kernel⟩
theorem lV_get {S : List Nat} {i : Nat} {x : V} (h : (lV S)[i]? = some x) : ∃ m, S[i]? = some m ∧ x = vN m := by
  unfold lV at h
  rw [List.getElem?_map] at h
  cases e : S[i]? with
  | none =>
    rw [e] at h
    cases h
  | some m =>
    rw [e] at h
    exact ⟨m, rfl, (Option.some.inj h).symm⟩
theorem best_least {e : Nat → Nat} {S : List Nat} {i n : Nat} (hs : S.Pairwise (· < ·)) (hi : S[i]? = some n) (hb : Best (fun j => ((e (Km361.at_ S j) : Nat) : Int)) (lV S).length i) : Least e (fun m => m ∈ S) n := by
  have hl : (lV S).length = S.length := by
    unfold lV
    rw [List.length_map]
  rw [hl] at hb
  have ei : Km361.at_ S i = n := at_of hi
  have hii : i < S.length := (List.getElem?_eq_some_iff.mp hi).1
  have get : ∀ m, m ∈ S → ∃ j, j < S.length ∧ S[j]? = some m ∧ Km361.at_ S j = m := fun m hm => by
    obtain ⟨j, hj⟩ := List.mem_iff_getElem?.mp hm
    exact ⟨j, (List.getElem?_eq_some_iff.mp hj).1, hj, at_of hj⟩
  refine ⟨List.mem_of_getElem? hi, fun m hm => ?_, fun m hm hlt => ?_⟩
  · obtain ⟨j, h1, h2, h3⟩ := get m hm
    have := (hb j h1).1
    simp only [ei, h3] at this
    omega
  · obtain ⟨j, h1, h2, h3⟩ := get m hm
    have hji : j < i := by
      refine Classical.byContradiction fun c => ?_
      by_cases e2 : i = j
      · subst e2
        rw [hi] at h2
        cases h2
        exact absurd hlt (Nat.lt_irrefl _)
      · have hp := List.pairwise_iff_getElem.mp hs i j hii h1 (by omega)
        have g1 := (List.getElem?_eq_some_iff.mp hi).2
        have g2 := (List.getElem?_eq_some_iff.mp h2).2
        rw [g1, g2] at hp
        omega
    have := (hb j h1).2 hji
    simp only [ei, h3] at this
    omega
theorem ok_least {fd : FuncData} (F : Fun K "least_edged" "least_edged" (top 5) (He.ga K "least_edged") fd) (T : Tx K mg) (GE : Cal P w K mg base 1 (He.ga K "edge_of") ["lines", "side"] spEdge)
    (TB : TabB base mg (He.cT K lp).1 (He.cT K lp).2) : FnOk P w K mg base CX0 4 (He.ga K "least_edged") fd ["lines", "sides"] (spLeast K) := by
  obtain ⟨oc, od, kV, doc, pm, an, cdv, ct, osl, rfl, lk, hcd⟩ := F.ex
  obtain ⟨c, rfl⟩ := He.codeIn_ref hcd
  have ec : (He.cT K lp).1 = c := He.codeOf_eq (p := lp) lk rfl
  obtain ⟨fdE, fE, bE, kE⟩ := GE
  refine fn_of lk hcd scLeast (fun vs H Q E h => ?_) fun A outer s H vs Q E hr h => ?_
  · obtain ⟨d, l, D, S, rfl, _⟩ := h
    rfl
  · obtain ⟨d, l, D, S, rfl, L, hS, hne, hso, hT, k⟩ := h
    have hlen : (lV S).length = S.length := by
      unfold lV
      rw [List.length_map]
    refine ⟨_, pss_one (ps_ret (pe_minlam (T := tabT K) (N := ["side", "lines"]) (fr := ["lines"]) (px := "side") (js := [0]) (k := 1) (c := c) (P := (He.cT K lp).2) rfl T.min (pv 1) (by rw [← ec]; exact TB) rfl (List.mem_singleton.mpr rfl) (fun q hq _ => by rw [List.mem_singleton.mp hq]; rfl)
      rfl (ndef_free (sc := defScope (top 5)) (fr := ["lines"]) (by decide +kernel)) (ndef_fr (sc := defScope (top 5)) (by decide +kernel)) rfl (nscope_by (by decide +kernel)) hr (fun _ _ _ _ _ _ => rfl)
      (fun A outer s H f F hsc hr2 => by
        obtain ⟨nm, q, pr, bd, sc, cl, cc⟩ := F
        cases hsc
        exact pe_call fE (hr2.mono (by decide)) rfl T.gEdge kE bE .nil pass0 (pa_cons (pv 1) (pa_cons (pv 0) pa_nil))))), ?_⟩
    refine ⟨_, rfl, l, lV S, fun j => ((edgeD D (Km361.at_ S j) : Nat) : Int), rfl, hS, by rw [hlen]; exact hne, hT, fun H2 eN T2 => ⟨fun j x H3 hx hs => ?_, fun i x H3 hx hb hs => ?_⟩⟩
    · obtain ⟨m, hm, rfl⟩ := lV_get hx
      have L3 : LinesAt H3 d D := (L.ext eN).ext (extN_of hs)
      refine ⟨_, rfl, _, rfl, d, D, m, rfl, L3, fun H' hs' => ⟨?_, hs'⟩⟩
      dsimp only
      rw [at_of hm]
      rfl
    · obtain ⟨m, hm, rfl⟩ := lV_get hx
      exact k m H3 (best_least hso hm hb) (eN.trans (extN_of hs)) (T2.ext hs)
/-! ### cut_of -/
def cutL (a b i : Nat) : List Nat := (List.range i).filter fun s => s.testBit a && !s.testBit b
theorem cutL_succ (a b i : Nat) : cutL a b (i + 1) = if (i.testBit a && !i.testBit b) = true then cutL a b i ++ [i] else cutL a b i := by
  unfold cutL
  rw [List.range_succ, List.filter_append]
  by_cases h : (i.testBit a && !i.testBit b) = true
  · rw [if_pos h, List.filter_cons, if_pos h]
    rfl
  · rw [if_neg h, List.filter_cons, if_neg h]
    exact List.append_nil _
theorem cutL_mem {a b m : Nat} : m ∈ cutL a b 256 ↔ inCut a b m := by
  unfold cutL inCut
  rw [List.mem_filter, List.mem_range, Bool.and_eq_true]
  simp only [Bool.not_eq_true']
  constructor
  · rintro ⟨h1, h2, h3⟩
    exact ⟨h2, h3, h1⟩
  · rintro ⟨h2, h3, h1⟩
    exact ⟨h1, h2, h3⟩
theorem cutL_sorted (a b i : Nat) : (cutL a b i).Pairwise (· < ·) := List.pairwise_lt_range.filter _
theorem cutL_len (a b i : Nat) : (cutL a b i).length ≤ i := by
  unfold cutL
  have := List.length_filter_le (fun s => s.testBit a && !s.testBit b) (List.range i)
  rw [List.length_range] at this
  exact this
theorem cutL_pos {a b : Nat} (ha : a < 8) (hab : a ≠ b) : 0 < (cutL a b 256).length := by
  have h : 2 ^ a ∈ cutL a b 256 := cutL_mem.mpr ⟨Nat.testBit_two_pow_self, Nat.testBit_two_pow_of_ne hab, by
    have ha2 : 2 ^ a ≤ 2 ^ 7 := Nat.pow_le_pow_right (by decide) (by omega)
    have : (2 : Nat) ^ 7 < 256 := by decide
    omega⟩
  exact List.length_pos_of_mem h
def spCut (K : PySem.W.Frag) : Sp := fun vs H Q _ => ∃ (d : Addr) (D : Dn) (a b : Nat), vs = [.ref d, vN a, vN b] ∧ a < 8 ∧ b < 8 ∧ a ≠ b ∧ LinesAt H d D ∧ Good D ∧ Tabs (tabT K) H ∧
  ∀ H', ExtN H H' → Tabs (tabT K) H' → Q (vN ((nt D).side a b)) H'
theorem scCut : FnScope ["lines", "a", "b", "side"] ["lines", "a", "b"] (defScope (top 6)) := ⟨rfl, rfl, rfl, by decide +kernel, rfl, by decide +kernel, by decide +kernel⟩
theorem edge_fun {D : Dn} (g : Good D) : (nt D).edge = edgeD D := funext fun s => nt_edge g s
theorem ok_cut {f : Addr} {fd : FuncData} (F : Fun K "cut_of" "cut_of" (top 6) f fd) (T : Tx K mg) (GH : Cal P w K mg base 1 (He.ga K "holds") ["side", "place"] spHolds) (GL : Cal P w K mg base 4 (He.ga K "least_edged") ["lines", "sides"] (spLeast K)) :
    FnOk P w K mg base CX0 5 f fd ["lines", "a", "b"] (spCut K) := by
  obtain ⟨fdH, fH, bH, kH⟩ := GH
  obtain ⟨fdL, fL, bL, kL⟩ := GL
  refine F.ok scCut (fun vs H Q E h => ?_) (fun cdv A outer s H vs Q E hr h => ?_)
  · obtain ⟨d, D, a, b, rfl, _⟩ := h
    rfl
  · obtain ⟨d, D, a, b, rfl, ha, hb, hab, L, g, hT, k⟩ := h
    obtain ⟨ts, hs⟩ := T.sides
    have hr1 : Room 1 _ := hr.mono (by decide)
    refine ⟨_, pss_one (ps_ret (pe_call fL hr rfl T.gLeast kL bL .nil pass0 (pa_cons (pv 0) (pa_cons
      (pe_lc (own := [("side", 3)]) (g := gName 3) rfl scCut.nd (pi_range1 rfl T.range (pa_cons (pe_ci rfl hs) pa_nil)) (blkOk_by (N := ["lines", "a", "b", "side"]) (sc := defScope (top 6)) (by decide +kernel))
        (fun _ _ _ _ _ => pg_name (i := 3) scCut.nd rfl (Or.inl rfl))
        (fun _ _ _ _ _ => pts_one (PW.pt (pw_and (pt_val (pe_call fH hr1 rfl T.gHolds kH bH .nil pass0 (pa_cons (pv 3) (pa_cons (pv 1) pa_nil))))
          (pw_and1 (pt_not (pt_val (pe_call fH hr1 rfl T.gHolds kH bH .nil pass0 (pa_cons (pv 3) (pa_cons (pv 2) pa_nil)))))))))
        (fun _ _ _ _ _ => pv 3)) pa_nil)))), ?_⟩
    refine ⟨_, rfl, 256, rfl, by decide, by decide, fun D0 hD => ?_⟩
    refine lc_it (walk_range (lo := 0) (n := 256)) (fun i H2 => H2 = upd H D0 (.lst (lV (cutL a b i)))) rfl (fun _ _ _ _ => trivial) ?_ ?_
    · rintro i x H2 H3 hi rfl ⟨rfl, rfl⟩
      have ex : V.int ((0 : Int) + (i : Nat)) = vN i := by
        rw [Int.zero_add]
        rfl
      dsimp only
      rw [ex]
      refine ⟨rfl, ?_⟩
      refine ⟨_, rfl, _, rfl, i, a, rfl, _, rfl, ?_⟩
      have es := cutL_succ a b i
      cases h1 : i.testBit a with
      | false =>
        rw [h1, Bool.false_and, if_neg Bool.false_ne_true] at es
        refine iteF ?_
        refine iteF ?_
        rw [es]
      | true =>
        refine iteT ?_
        refine ⟨_, rfl, _, rfl, i, b, rfl, _, rfl, ?_⟩
        rw [h1, Bool.true_and] at es
        cases h2 : i.testBit b with
        | true =>
          rw [h2] at es
          refine iteF ?_
          rw [es]
          rfl
        | false =>
          rw [h2] at es
          refine iteT ?_
          refine ⟨_, rfl, _, upd_same, ?_, ?_⟩
          · unfold lV
            rw [List.length_map]
            have := cutL_len a b i
            have hi2 : i < 256 := hi
            exact Nat.lt_of_lt_of_le (by omega : (cutL a b i).length < 256) (by decide)
          · rw [upd_upd, es]
            unfold lV
            rw [if_pos (show (!false) = true from rfl), List.map_append]
            rfl
    · rintro H2 rfl
      have sm : Same H (upd H D0 (.lst (lV (cutL a b 256)))) := same_upd (Same.refl H) hD
      refine ⟨d, D0, D, cutL a b 256, rfl, L.ext (extN_of sm), SqL.of upd_same, cutL_pos ha hab, cutL_sorted _ _ _, hT.ext sm, fun n H' hn eN T' => ?_⟩
      have e : n = (nt D).side a b := by
        have h2 := side_least (n := nt D) ha hb hab
        rw [edge_fun g] at h2
        exact Least.uniq ⟨cutL_mem.mp hn.mem, fun m hm => hn.le m (cutL_mem.mpr hm), fun m hm => hn.first m (cutL_mem.mpr hm)⟩ h2
      rw [e]
      exact k H' ((extN_of sm).trans eN) T'
/-! ### weakest_side -/
def spWeak (K : PySem.W.Frag) : Sp := fun vs H Q _ => ∃ (d : Addr) (D : Dn), vs = [.ref d] ∧ LinesAt H d D ∧ Good D ∧ Tabs (tabT K) H ∧ ∀ H', ExtN H H' → Tabs (tabT K) H' → Q (vN (nt D).weakest) H'
theorem scWeak : FnScope ["lines"] ["lines"] (defScope (top 7)) := ⟨rfl, rfl, rfl, by decide +kernel, rfl, by decide +kernel, by decide +kernel⟩
def midL : List Nat := (List.range 254).map (· + 1)
theorem mid_rg : rgV 1 255 = lV midL := by
  unfold rgV lV midL
  rw [List.map_map]
  apply List.map_congr_left
  intro i _
  show V.int ((1 : Int) + (i : Nat)) = V.int ((i + 1 : Nat) : Int)
  congr 1
  omega
theorem mid_mem {m : Nat} : m ∈ midL ↔ 0 < m ∧ m < 255 := by
  unfold midL
  rw [List.mem_map]
  constructor
  · rintro ⟨x, hx, rfl⟩
    have := List.mem_range.mp hx
    omega
  · rintro ⟨h1, h2⟩
    exact ⟨m - 1, List.mem_range.mpr (by omega), by omega⟩
theorem ok_weak {f : Addr} {fd : FuncData} (F : Fun K "weakest_side" "weakest_side" (top 7) f fd) (T : Tx K mg) (GL : Cal P w K mg base 4 (He.ga K "least_edged") ["lines", "sides"] (spLeast K)) : FnOk P w K mg base CX0 5 f fd ["lines"] (spWeak K) := by
  obtain ⟨fdL, fL, bL, kL⟩ := GL
  refine F.ok scWeak (fun vs H Q E h => ?_) (fun cdv A outer s H vs Q E hr h => ?_)
  · obtain ⟨d, D, rfl, _⟩ := h
    rfl
  · obtain ⟨d, D, rfl, L, g, hT, k⟩ := h
    obtain ⟨ts, hs⟩ := T.sides
    refine ⟨_, pss_one (ps_ret (pe_call fL hr rfl T.gLeast kL bL .nil pass0 (pa_cons (pv 0) (pa_cons
      (pe_listRg rfl rfl T.list (prg_2 rfl T.range pe_int (pe_op op_sub (pe_ci rfl hs) pe_int))) pa_nil)))), ?_⟩
    refine ⟨_, rfl, _, _, rfl, rfl, 1, 255, rfl, rfl, RgOk.of_le (by decide) (by decide) (by decide) (by decide), fun D0 hD => ?_⟩
    rw [mid_rg]
    have sm : Same H (upd H D0 (.lst (lV midL))) := same_upd (Same.refl H) hD
    refine ⟨d, D0, D, midL, rfl, L.ext (extN_of sm), SqL.of upd_same, by decide +kernel, ?_, hT.ext sm, fun n H' hn eN T' => ?_⟩
    · unfold midL
      rw [List.pairwise_map]
      exact List.pairwise_lt_range.imp fun h => by omega
    · have e : n = (nt D).weakest := by
        have h2 := weak_least (n := nt D)
        rw [edge_fun g] at h2
        exact Least.uniq ⟨mid_mem.mp hn.mem, fun m hm => hn.le m (mid_mem.mpr hm), fun m hm => hn.first m (mid_mem.mpr hm)⟩ h2
      rw [e]
      exact k H' ((extN_of sm).trans eN) T'
end
end Mk
set_option Elab.async false
set_option linter.all false
set_option maxRecDepth 100000
set_option maxHeartbeats 2000000
namespace Mk
open PySem PySem.Spec PyProof.Rows L2 LamX NdefX
open Km361 (at_)
/-! ### a tree in the heap -/
def tF (al wl : Addr) : List (Str × V) := [("above", .ref al), ("weights", .ref wl)]
structure TreeAt (K : PySem.W.Frag) (H : Hp) (p al wl : Addr) (t : Km361.Tree) : Prop where
  ins : ∃ dx, H p = some (.ins (He.ga K "Tree") dx (tF al wl))
  ab : H al = some (.lst (lV t.above))
  we : H wl = some (.lst (lV t.much))
theorem lk_here {k : Str} {v : V} {r : List (Str × V)} : List.lookup k ((k, v) :: r) = some v := by
  have e : (k == k) = true := beq_self_eq_true k
  simp only [List.lookup, e]
theorem lk_past {k g : Str} {v : V} {r : List (Str × V)} (h : (k == g) = false) : List.lookup k ((g, v) :: r) = List.lookup k r := by
  simp only [List.lookup, h]
theorem tF_above (al wl : Addr) : (tF al wl).lookup ("above" : Str) = some (.ref al) := lk_here
theorem tF_weights (al wl : Addr) : (tF al wl).lookup ("weights" : Str) = some (.ref wl) := (lk_past (by decide +kernel)).trans lk_here
theorem tF_meth (al wl : Addr) {m : Str} (h1 : (m == ("above" : Str)) = false) (h2 : (m == ("weights" : Str)) = false) : (tF al wl).lookup m = none := (lk_past h1).trans ((lk_past h2).trans rfl)
theorem upd_self {H : Hp} {a : Addr} {o : HO} (h : H a = some o) : upd H a o = H := by
  funext b
  by_cases e : b = a
  · rw [e, upd_same, h]
  · rw [upd_ne e]
theorem lV_at {l : List Nat} {i : Nat} (h : i < l.length) : (lV l)[i]? = some (vN (at_ l i)) := by
  unfold lV
  rw [List.getElem?_map, at_get h]
  rfl
theorem lV_len (l : List Nat) : (lV l).length = l.length := List.length_map ..
theorem lV_set (l : List Nat) (i v : Nat) : (lV l).set i (vN v) = lV (l.set i v) := by
  unfold lV
  rw [List.map_set]
theorem ixN_nat {n j : Nat} (h : j < n) : ixN n (j : Int) = some j := by
  unfold ixN
  rw [if_pos (Int.natCast_nonneg _), if_pos (by omega), Int.toNat_natCast]
theorem vN_inj {a b : Nat} : vN a = vN b ↔ a = b := by
  constructor
  · intro h
    have := V.int.inj h
    omega
  · intro h
    rw [h]
/-- an object that is no list, no dict, no instance -/
def Calm (o : HO) : Prop := (∀ xs, o ≠ .lst xs) ∧ (∀ kvs, o ≠ .dK kvs) ∧ ∀ C dx fs, o ≠ .ins C dx fs
theorem tabs_keep {T : List (Addr × Str)} {H H' : Hp} (t : Tabs T H) (k : ∀ b o, H b = some o → Calm o → H' b = some o) : Tabs T H' := by
  intro q hq
  obtain ⟨ps, a1, a2, a3⟩ := t q hq
  refine ⟨ps, k _ _ a1 ⟨(fun _ z => nomatch z), (fun _ z => nomatch z), (fun _ _ _ z => nomatch z)⟩, a2, fun pos cv hc => ?_⟩
  obtain ⟨c, c1, c2⟩ := a3 pos cv hc
  refine ⟨c, c1, k _ _ c2 ⟨fun _ z => ?_, fun _ z => ?_, fun _ _ _ z => ?_⟩⟩ <;> (unfold CodeO at z; cases z)
abbrev sPart : Stmt := inClass (top 9) 1
abbrev sTInit : Stmt := inClass (top 9) 0
abbrev sStep : Stmt := inClass (top 9) 2
section
variable {P : Program} {w : World} {K : PySem.W.Frag} {mg : Str → Option Value} {base : Heap}
/-! ### part_from_above -/
def spPart (K : PySem.W.Frag) : Sp := fun vs H Q _ => ∃ (p d al wl : Addr) (D : Dn) (t : Km361.Tree) (s : Nat), vs = [.ref p, .ref d, vN s] ∧ TreeAt K H p al wl t ∧ TW t ∧ 0 < s ∧ s < 8 ∧ al ≠ wl ∧ LinesAt H d D ∧ Good D ∧ Tabs (tabT K) H ∧
  ∀ H', TreeAt K H' p al wl ((nt D).grow t s) → (∀ b o, H b = some o → (∀ ps, o ≠ .tbl ps) → b ≠ al → b ≠ wl → H' b = some o) → Tabs (tabT K) H' → Q .non H'
theorem scPart : FnScope ["self", "lines", "place", "upper", "cut", "behind"] ["self", "lines", "place"] (defScope sPart) := ⟨rfl, rfl, rfl, by decide +kernel, rfl, by decide +kernel, by decide +kernel⟩
theorem ok_part {f : Addr} {fd : FuncData} (F : Fun K "part_from_above" "Tree.part_from_above" sPart f fd) (T : Tx K mg) (GH : Cal P w K mg base 1 (He.ga K "holds") ["side", "place"] spHolds) (GE : Cal P w K mg base 1 (He.ga K "edge_of") ["lines", "side"] spEdge)
    (GC : Cal P w K mg base 5 (He.ga K "cut_of") ["lines", "a", "b"] (spCut K)) : FnOk P w K mg base CX0 6 f fd ["self", "lines", "place"] (spPart K) := by
  obtain ⟨fdH, fH, bH, kH⟩ := GH
  obtain ⟨fdE, fE, bE, kE⟩ := GE
  obtain ⟨fdC, fC, bC, kC⟩ := GC
  refine F.ok scPart (fun vs H Q E h => ?_) (fun cdv A outer s H vs Q E hr h => ?_)
  · obtain ⟨p, d, al, wl, D, t, s, rfl, _⟩ := h
    rfl
  · obtain ⟨p, d, al, wl, D, t, n, rfl, TA, W, h0, h8, hne, L, g, hT, k⟩ := h
    obtain ⟨tp, hp⟩ := T.places
    have hr1 : Room 1 _ := hr.mono (by decide)
    refine ⟨_, pss_cons (ps_set (i := 3) scPart.nd rfl (Or.inl rfl) (pe_ix ix_list (pe_fld (pv 0) rfl) (pv 2) (fun _ _ => rfl)))
      (pss_cons (ps_set (i := 4) scPart.nd rfl (Or.inl rfl) (pe_call fC hr rfl T.gCut kC bC .nil pass0 (pa_cons (pv 1) (pa_cons (pv 2) (pa_cons (pv 3) pa_nil)))))
      (pss_cons (ps_asg (pe_call fE hr1 rfl T.gEdge kE bE .nil pass0 (pa_cons (pv 1) (pa_cons (pv 4) pa_nil))) (pg_sub (pe_fld (pv 0) rfl) (pv 2) set_list (fun _ => rfl)))
      (pss_one (ps_for PassesOwn.never rfl (pi_range2 rfl T.range (pa_cons (pe_op op_add (pv 2) pe_int) (pa_cons (pe_ci rfl hp) pa_nil))) (pg_name (i := 5) scPart.nd rfl (Or.inl rfl))
        (pss_one (ps_if (PW.pt (pw_and (pt_cmpR op_eq (pe_ix ix_list (pe_fld (pv 0) rfl) (pv 5) (fun _ _ => rfl)) (pv 3) (nomark _)) (pw_and1 (pt_val (pe_call fH hr1 rfl T.gHolds kH bH .nil pass0 (pa_cons (pv 4) (pa_cons (pv 5) pa_nil)))))))
          (pss_one (ps_asg (pv 2) (pg_sub (pe_fld (pv 0) rfl) (pv 5) set_list (fun _ => rfl)))) pss_nil)))))), ?_⟩
    obtain ⟨⟨dx, hpi⟩, hab, hwe⟩ := id TA
    have la := W.la
    have lm := W.lm
    have hup := W.lt n h0 h8
    -- upper = self.above[place]
    refine ⟨_, rfl, p, _, dx, _, _, rfl, hpi, T.cTree, T.aAbove, tF_above _ _, _, rfl, al, _, _, vN (at_ t.above n), rfl, rfl, SqL.of hab, atI_nat (lV_at (by omega)), ?_⟩
    -- cut = cut_of(lines, place, upper)
    refine ⟨_, rfl, _, rfl, _, rfl, d, D, n, at_ t.above n, rfl, h8, by omega, by omega, L, g, hT, fun H1 eN T1 => ?_⟩
    have L1 := L.ext eN
    -- self.weights[place] = edge_of(lines, cut)
    refine ⟨_, rfl, _, rfl, d, D, _, rfl, L1, fun H2 sm => ?_⟩
    have e2 : ExtN H H2 := eN.trans (extN_of sm)
    have hpi2 := e2 _ _ hpi (fun _ z => nomatch z)
    have hab2 := e2 _ _ hab (fun _ z => nomatch z)
    have hwe2 := e2 _ _ hwe (fun _ z => nomatch z)
    refine ⟨_, rfl, p, _, dx, _, _, rfl, hpi2, T.cTree, T.aWeights, tF_weights _ _, _, rfl, wl, _, _, n, rfl, rfl, hwe2, by rw [lV_len, lm]; exact ixN_nat h8, ?_⟩
    rw [lV_set]
    generalize hx : (nt D).side n (at_ t.above n) = x
    generalize hup0 : at_ t.above n = u at hup hx
    have npw : p ≠ wl := ne_of hpi hwe (by intro z; cases z)
    have npa : p ≠ al := ne_of hpi hab (by intro z; cases z)
    generalize hH3 : upd H2 wl (HO.lst (lV (t.much.set n (edgeD D x)))) = H3
    have hab3 : H3 al = some (.lst (lV t.above)) := by rw [← hH3, upd_ne hne]; exact hab2
    have hpi3 : H3 p = some (.ins (He.ga K "Tree") dx (tF al wl)) := by rw [← hH3, upd_ne npw]; exact hpi2
    have hwe3 : H3 wl = some (.lst (lV (t.much.set n (edgeD D x)))) := by rw [← hH3, upd_same]
    -- for behind in range(place + 1, PLACES)
    refine ⟨_, rfl, _, _, rfl, rfl, (n : Int) + 1, 8, rfl, ⟨by omega, by omega, by decide, by decide⟩, ?_⟩
    have en : ((8 : Int) - ((n : Int) + 1)).toNat = 7 - n := by omega
    rw [en]
    refine for_range (lo := (n : Int) + 1) (n := 7 - n) (fun k σ H' => ∃ v5 : Option V, σ = [some (.ref p), some (.ref d), some (vN n), some (vN u), some (vN x), v5] ∧ H' = upd H3 al (.lst (lV (growK t.above n u x k))))
      ⟨none, by rw [← hx]; rfl, by rw [growK_zero la, upd_self hab3]⟩ ?_ ?_
    · rintro i σ H' hi ⟨v5, rfl, rfl⟩
      have ev : V.int ((n : Int) + 1 + (i : Nat)) = vN (n + 1 + i) := by
        show V.int _ = V.int _
        congr 1
      rw [ev]
      have hlt : n + 1 + i < 8 := by omega
      have hpi4 : upd H3 al (.lst (lV (growK t.above n u x i))) p = some (.ins (He.ga K "Tree") dx (tF al wl)) := by rw [upd_ne npa]; exact hpi3
      have hgl : n + 1 + i < (growK t.above n u x i).length := by rw [growK_len]; exact hlt
      refine ⟨_, rfl, p, _, dx, _, _, rfl, hpi4, T.cTree, T.aAbove, tF_above _ _, _, rfl, al, _, _, vN (at_ (growK t.above n u x i) (n + 1 + i)), rfl, rfl, SqL.of upd_same, atI_nat (lV_at hgl), _, rfl, rfl, _, rfl, ?_⟩
      rw [growK_at hlt]
      by_cases c1 : at_ t.above (n + 1 + i) = u
      · rw [c1, decide_eq_true rfl]
        refine iteT ?_
        refine ⟨_, rfl, _, rfl, x, n + 1 + i, rfl, _, rfl, ?_⟩
        cases c2 : x.testBit (n + 1 + i) with
        | true =>
          refine iteT ?_
          refine ⟨_, rfl, _, rfl, p, _, dx, _, _, rfl, hpi4, T.cTree, T.aAbove, tF_above _ _, _, rfl, al, _, _, n + 1 + i, rfl, rfl, upd_same, by rw [lV_len]; exact ixN_nat hgl, some (vN (n + 1 + i)), rfl, ?_⟩
          rw [upd_upd, growK_put hlt c2 c1, lV_set]
        | false =>
          refine iteF ?_
          exact ⟨some (vN (n + 1 + i)), rfl, by rw [growK_skip fun z => by rw [c2] at z; cases z.1]⟩
      · rw [decide_eq_false (fun z => c1 (vN_inj.mp z))]
        refine iteF ?_
        refine iteF ?_
        exact ⟨some (vN (n + 1 + i)), rfl, by rw [growK_skip fun z => c1 z.2]⟩
    · rintro σ H' ⟨v5, rfl, rfl⟩
      have eg : growK t.above n u x (7 - n) = ((nt D).grow t n).above := by
        rw [← growK_all (n := nt D) (t := t) h8, hup0, hx]
      have em : t.much.set n (edgeD D x) = ((nt D).grow t n).much := by
        show _ = t.much.set n ((nt D).edge ((nt D).side n (at_ t.above n)))
        rw [hup0, hx, nt_edge g]
      rw [eg]
      refine k _ ⟨⟨dx, by rw [upd_ne npa]; exact hpi3⟩, upd_same, by rw [upd_ne (Ne.symm hne), hwe3, em]⟩ (fun b o hb ht n1 n2 => ?_) ?_
      · rw [upd_ne n1, ← hH3, upd_ne n2]
        exact e2 b o hb ht
      · have T2 : Tabs (tabT K) H2 := T1.ext sm
        refine tabs_keep T2 fun b o hb hl => ?_
        have n1 : b ≠ al := fun z => by
          rw [z, hab2] at hb
          exact hl.1 _ (Option.some.inj hb).symm
        have n2 : b ≠ wl := fun z => by
          rw [z, hwe2] at hb
          exact hl.1 _ (Option.some.inj hb).symm
        rw [upd_ne n1, ← hH3, upd_ne n2]
        exact hb
/-! ### Tree.__init__ -/
def spTInit (K : PySem.W.Frag) : Sp := fun vs H Q _ => ∃ (p dx d : Addr) (D : Dn), vs = [.ref p, .ref d] ∧ H p = some (.ins (He.ga K "Tree") dx []) ∧ LinesAt H d D ∧ Good D ∧ Tabs (tabT K) H ∧
  ∀ H' al wl, TreeAt K H' p al wl (nt D).tree → (∀ b o, H b = some o → (∀ ps, o ≠ .tbl ps) → b ≠ p → H' b = some o) → Tabs (tabT K) H' → Q .non H'
theorem scTInit : FnScope ["self", "lines", "place"] ["self", "lines"] (defScope sTInit) := ⟨rfl, rfl, rfl, by decide +kernel, rfl, by decide +kernel, by decide +kernel⟩
theorem put_here {f : Str} {v x : V} {r : List (Str × V)} : putF f v ((f, x) :: r) = (f, v) :: r := if_pos rfl
theorem put_past {f g : Str} {v x : V} {r : List (Str × V)} (h : ¬ g = f) : putF f v ((g, x) :: r) = (g, x) :: putF f v r := if_neg h
theorem tF_new (al wl : Addr) : putF "weights" (.ref wl) (putF "above" (.ref al) []) = tF al wl := (put_past (by decide +kernel)).trans rfl
theorem zeros : (List.replicate (8 : Int).toNat [V.int 0]).flatten = lV Km361.tree0.above := rfl
theorem ok_tinit {f : Addr} {fd : FuncData} {fp : Addr} (F : Fun K "__init__" "Tree.__init__" sTInit f fd) (T : Tx K mg) (mP : Meth K (He.ga K "Tree") "part_from_above" fp) (GP : Cal P w K mg base 6 fp ["self", "lines", "place"] (spPart K)) :
    FnOk P w K mg base CX0 7 f fd ["self", "lines"] (spTInit K) := by
  obtain ⟨fdP, fP, bP, kP⟩ := GP
  refine F.ok scTInit (fun vs H Q E h => ?_) (fun cdv A outer s H vs Q E hr h => ?_)
  · obtain ⟨p, dx, d, D, rfl, _⟩ := h
    rfl
  · obtain ⟨p, dx, d, D, rfl, hpi, L, g, hT, k⟩ := h
    obtain ⟨tp, hp⟩ := T.places
    refine ⟨_, pss_cons (ps_fld (pv 0) (pe_op op_rep (pe_lst (pa_cons pe_int pa_nil)) (pe_ci rfl hp)) rfl)
      (pss_cons (ps_fld (pv 0) (pe_op op_rep (pe_lst (pa_cons pe_int pa_nil)) (pe_ci rfl hp)) rfl)
      (pss_one (ps_for PassesOwn.never rfl (pi_range2 rfl T.range (pa_cons pe_int (pa_cons (pe_ci rfl hp) pa_nil))) (pg_name (i := 2) scTInit.nd rfl (Or.inl rfl))
        (pss_one (ps_expr (pe_meth (pv 0) T.cTree mP fP hr bP .nil pass0 (pa_cons (pv 1) (pa_cons (pv 2) pa_nil)))))))), ?_⟩
    -- self.above = [0] * PLACES
    refine ⟨by show 1 ≤ sizeLine; decide, fun z1 n1 => ?_⟩
    refine ⟨z1, 8, _, rfl, rfl, upd_same, by decide, by decide, by show 1 * 8 ≤ sizeLine; decide, fun al n2 => ?_⟩
    rw [zeros]
    have h1 : Same H (upd H z1 (.lst [V.int 0])) := same_upd (Same.refl H) n1
    have h2 : Same H (upd (upd H z1 (.lst [V.int 0])) al (.lst (lV Km361.tree0.above))) := h1.trans (same_upd (Same.refl _) n2)
    have nal : H al = none := h1.free n2
    refine ⟨_, rfl, p, _, dx, _, rfl, h2 _ _ hpi, T.cTree, T.aAbove, by show 0 < 1000; decide, ?_⟩
    generalize hH2 : upd (upd H z1 (.lst [V.int 0])) al (.lst (lV Km361.tree0.above)) = H2 at h2
    have hal2 : H2 al = some (.lst (lV Km361.tree0.above)) := by rw [← hH2, upd_same]
    have hp2 := h2 _ _ hpi
    have npa : p ≠ al := ne_of_none hpi nal
    generalize hH3 : upd H2 p (HO.ins (He.ga K "Tree") dx (putF "above" (V.ref al) [])) = H3
    have hp3 : H3 p = some (HO.ins (He.ga K "Tree") dx (putF "above" (V.ref al) [])) := by rw [← hH3, upd_same]
    have fr3 : ∀ b o, H b = some o → b ≠ p → H3 b = some o := fun b o hb hn => by
      rw [← hH3, upd_ne hn]
      exact h2 b o hb
    have hal3 : H3 al = some (.lst (lV Km361.tree0.above)) := by rw [← hH3, upd_ne npa.symm]; exact hal2
    -- self.weights = [0] * PLACES
    refine ⟨by show 1 ≤ sizeLine; decide, fun z2 n3 => ?_⟩
    refine ⟨z2, 8, _, rfl, rfl, upd_same, by decide, by decide, by show 1 * 8 ≤ sizeLine; decide, fun wl n4 => ?_⟩
    rw [zeros]
    have h3 : Same H3 (upd H3 z2 (.lst [V.int 0])) := same_upd (Same.refl H3) n3
    have h4 : Same H3 (upd (upd H3 z2 (.lst [V.int 0])) wl (.lst (lV Km361.tree0.above))) := h3.trans (same_upd (Same.refl _) n4)
    have nwl : H3 wl = none := h3.free n4
    have npw : p ≠ wl := ne_of_none hp3 nwl
    have naw : al ≠ wl := ne_of_none hal3 nwl
    refine ⟨_, rfl, p, _, dx, _, rfl, h4 _ _ hp3, T.cTree, T.aWeights, by show 1 < 1000; decide, ?_⟩
    rw [tF_new]
    generalize hH4 : upd (upd H3 z2 (.lst [V.int 0])) wl (.lst (lV Km361.tree0.above)) = H4 at h4
    have hwl4 : H4 wl = some (.lst (lV Km361.tree0.much)) := by rw [← hH4, upd_same]; rfl
    generalize hH5 : upd H4 p (HO.ins (He.ga K "Tree") dx (tF al wl)) = H5
    have fr5 : ∀ b o, H b = some o → b ≠ p → H5 b = some o := fun b o hb hn => by
      rw [← hH5, upd_ne hn]
      exact h4 b o (fr3 b o hb hn)
    have TA5 : TreeAt K H5 p al wl (treeK (nt D) 0) := ⟨⟨dx, by rw [← hH5, upd_same]⟩, by rw [← hH5, upd_ne npa.symm]; exact h4 _ _ hal3, by rw [← hH5, upd_ne npw.symm]; exact hwl4⟩
    have npd : p ≠ d := ne_of hpi L.dict (by intro z; cases z)
    have npt : ∀ q ∈ D, q.2.2 ≠ p := fun q hq => ne_of (L.tups q hq) hpi (by intro z; cases z)
    have L5 : LinesAt H5 d D := ⟨fr5 _ _ L.dict npd.symm, fun q hq => fr5 _ _ (L.tups q hq) (npt q hq)⟩
    have T5 : Tabs (tabT K) H5 := tabs_keep hT fun b o hb hc => fr5 b o hb fun z => by
      rw [z, hpi] at hb
      exact hc.2.2 _ _ _ (Option.some.inj hb).symm
    have alo : ∀ b o, H b = some o → b ≠ al := fun b o hb => ne_of_none hb nal
    have wlo : ∀ b o, H b = some o → b ≠ p → b ≠ wl := fun b o hb hn => ne_of_none (fr3 b o hb hn) nwl
    -- for place in range(1, PLACES)
    refine ⟨1, 8, rfl, ⟨by decide, by decide, by decide, by decide⟩, ?_⟩
    refine for_range (lo := 1) (n := 7) (fun k σ H' => ∃ v2 : Option V, σ = [some (.ref p), some (.ref d), v2] ∧ TreeAt K H' p al wl (treeK (nt D) k) ∧ LinesAt H' d D ∧ Tabs (tabT K) H' ∧ ∀ b o, H b = some o → (∀ ps, o ≠ .tbl ps) → b ≠ p → H' b = some o)
      ⟨none, rfl, TA5, L5, T5, fun b o hb _ hn => fr5 b o hb hn⟩ ?_ ?_
    · rintro i σ H' hi ⟨v2, rfl, TA, L', T', fr⟩
      have ev : V.int ((1 : Int) + (i : Nat)) = vN (i + 1) := by
        show V.int _ = V.int _
        congr 1
        omega
      rw [ev]
      obtain ⟨⟨dx', hpi'⟩, hab', hwe'⟩ := id TA
      refine ⟨_, rfl, p, dx', _, rfl, hpi', tF_meth _ _ (by decide +kernel) (by decide +kernel), _, rfl, _, rfl, p, d, al, wl, D, treeK (nt D) i, i + 1, rfl, TA, tw_treeK (fun x => by rw [nt_edge g]; exact edgeD_le g x) i (by omega), by omega, by omega, naw, L', g, T', fun H6 TA6 fr6 T6 => ?_⟩
      rw [← treeK_succ] at TA6
      refine ⟨some (vN (i + 1)), rfl, TA6, ?_, T6, fun b o hb ht hn => fr6 b o (fr b o hb ht hn) ht (alo b o hb) (wlo b o hb hn)⟩
      exact ⟨fr6 _ _ L'.dict (fun _ z => nomatch z) (ne_of L'.dict hab' (by intro z; cases z)) (ne_of L'.dict hwe' (by intro z; cases z)),
        fun q hq => fr6 _ _ (L'.tups q hq) (fun _ z => nomatch z) (ne_of (L'.tups q hq) hab' (by intro z; cases z)) (ne_of (L'.tups q hq) hwe' (by intro z; cases z))⟩
    · rintro σ H' ⟨v2, rfl, TA, L', T', fr⟩
      rw [treeK_all] at TA
      exact k H' al wl TA fr T'
/-! ### least_step -/
def spStep (K : PySem.W.Frag) : Sp := fun vs H Q _ => ∃ (p al wl : Addr) (t : Km361.Tree) (a b : Nat), vs = [.ref p, vN a, vN b] ∧ TreeAt K H p al wl t ∧ TW t ∧ a < 8 ∧ b < 8 ∧ a ≠ b ∧ ∀ H', Same H H' → Q (vN (t.least a b)) H'
theorem scStep : FnScope ["self", "a", "b", "passed", "here", "there"] ["self", "a", "b"] (defScope sStep) := ⟨rfl, rfl, rfl, by decide +kernel, rfl, by decide +kernel, by decide +kernel⟩
def twoSum (σ : L2.St) : Nat := match σ with
  | [_, _, _, _, some (.int i), some (.int j)] => i.toNat + j.toNat
  | _ => 0
theorem fold_put (w x : Nat) (l : List Nat) : (l ++ [w]).foldl min x = l.foldl min (min w x) := by
  rw [List.foldl_append, List.foldl_cons, List.foldl_nil, fold_minN]
  exact Nat.min_comm _ _
theorem lV_ints (l : List Nat) : lV l = (intsOf l).map V.int := by
  unfold lV intsOf
  rw [List.map_map]
  rfl
theorem ok_step {f : Addr} {fd : FuncData} (F : Fun K "least_step" "Tree.least_step" sStep f fd) (T : Tx K mg) : FnOk P w K mg base CX0 1 f fd ["self", "a", "b"] (spStep K) := by
  refine F.ok scStep (fun vs H Q E h => ?_) (fun cdv A outer s H vs Q E hr h => ?_)
  · obtain ⟨p, al, wl, t, a, b, rfl, _⟩ := h
    rfl
  · obtain ⟨p, al, wl, t, a, b, rfl, TA, W, ha, hb, hab, k⟩ := h
    refine ⟨_, pss_cons (ps_set (i := 3) scStep.nd rfl (Or.inl rfl) (pe_lst pa_nil))
      (pss_cons (ps_set (i := 4) scStep.nd rfl (Or.inl rfl) (pv 1))
      (pss_cons (ps_set (i := 5) scStep.nd rfl (Or.inl rfl) (pv 2))
      (pss_cons (ps_while PassesOwn.never (pt_cmpR op_ne (pv 4) (pv 5) (nomark _))
        (pss_one (ps_if (pt_cmpR op_gt (pv 4) (pv 5) (nomark _))
          (pss_cons (ps_expr (pe_bm PySem.F.plainAttrs_list PySem.F.slot_list_append PySem.F.type_list_append mt_append (pv 3) (pa_cons (pe_ix ix_list (pe_fld (pv 0) rfl) (pv 4) (fun _ _ => rfl)) pa_nil)))
            (pss_one (ps_set (i := 4) scStep.nd rfl (Or.inl rfl) (pe_ix ix_list (pe_fld (pv 0) rfl) (pv 4) (fun _ _ => rfl)))))
          (pss_cons (ps_expr (pe_bm PySem.F.plainAttrs_list PySem.F.slot_list_append PySem.F.type_list_append mt_append (pv 3) (pa_cons (pe_ix ix_list (pe_fld (pv 0) rfl) (pv 5) (fun _ _ => rfl)) pa_nil)))
            (pss_one (ps_set (i := 5) scStep.nd rfl (Or.inl rfl) (pe_ix ix_list (pe_fld (pv 0) rfl) (pv 5) (fun _ _ => rfl))))))))
      (pss_one (ps_ret (pe_callB (cr_min rfl) (by rfl) T.min (by decide +kernel) (pa_cons (pv 3) pa_nil))))))), ?_⟩
    obtain ⟨⟨dx, hpi⟩, hab2, hwe⟩ := id TA
    have la := W.la
    have lm := W.lm
    refine ⟨Nat.zero_le _, fun q nq => ?_⟩
    have npq : p ≠ q := ne_of_none hpi nq
    have nalq : al ≠ q := ne_of_none hab2 nq
    have nwlq : wl ≠ q := ne_of_none hwe nq
    refine ⟨_, rfl, _, rfl, ?_⟩
    refine while_by (fun σ H' => ∃ (h j : Nat) (ps : List Nat), σ = [some (.ref p), some (vN a), some (vN b), some (.ref q), some (vN h), some (vN j)] ∧ h < 8 ∧ j < 8 ∧ H' = upd H q (.lst (lV ps)) ∧ ps.length + h + j ≤ 16 ∧ (∀ y ∈ ps, y ≤ 24000) ∧ (ps ≠ [] ∨ h ≠ j) ∧ t.least a b = ps.foldl min (t.least h j))
      (fun σ _ => twoSum σ) ⟨a, b, [], rfl, ha, hb, rfl, by simp; omega, by simp, .inr hab, rfl⟩ ?_ ?_
    · rintro σ H' ⟨h, j, ps, rfl, h8, j8, rfl, hl, hw, hne, he⟩
      have hp' : upd H q (.lst (lV ps)) p = some (.ins (He.ga K "Tree") dx (tF al wl)) := by rw [upd_ne npq]; exact hpi
      have ha' : upd H q (.lst (lV ps)) al = some (.lst (lV t.above)) := by rw [upd_ne nalq]; exact hab2
      have hw' : upd H q (.lst (lV ps)) wl = some (.lst (lV t.much)) := by rw [upd_ne nwlq]; exact hwe
      refine ⟨_, rfl, _, rfl, rfl, _, rfl, ?_⟩
      by_cases hjj : h = j
      · subst hjj
        rw [decide_eq_true rfl]
        refine iteF ?_
        refine ⟨_, rfl, q, intsOf ps, rfl, by rw [← lV_ints]; exact SqL.of upd_same, ?_, fun m hm hle => ?_⟩
        · unfold intsOf
          rw [List.length_map]
          rcases hne with z | z
          · exact List.length_pos_iff.mpr z
          · exact absurd rfl z
        · unfold intsOf at hm hle
          obtain ⟨m', hm', rfl⟩ := List.mem_map.mp hm
          have e2 : ps.foldl min 24000 = m' := fold_least_min ps 24000 m' (fun y hy => by
            have := hle (y : Int) (List.mem_map.mpr ⟨y, hy, rfl⟩)
            omega) (hw m' hm') (.inl hm')
          rw [least_eq, e2] at he
          rw [← he]
          exact k _ (same_upd (Same.refl H) nq)
      · rw [decide_eq_false (fun z => hjj (vN_inj.mp z))]
        refine iteT ?_
        have hps : (lV ps).length < sizeLine := by
          rw [lV_len]
          exact Nat.lt_of_le_of_lt (by omega : ps.length ≤ 16) (by decide)
        refine ⟨_, rfl, _, rfl, _, _, rfl, rfl, _, rfl, ?_⟩
        by_cases hgt : j < h
        · rw [decide_eq_true (show (j : Int) < (h : Int) by omega)]
          refine iteT ?_
          have hl2 := W.lt h (by omega) h8
          refine ⟨_, rfl, .inl ⟨rfl, _, SqL.of upd_same⟩, _, rfl, p, _, dx, _, _, rfl, hp', T.cTree, T.aWeights, tF_weights _ _, _, rfl, wl, _, _, vN (at_ t.much h), rfl, rfl, SqL.of hw', atI_nat (lV_at (by omega)), q, _, _, rfl, rfl, upd_same, hps, ?_⟩
          rw [upd_upd]
          have ea : lV ps ++ [vN (at_ t.much h)] = lV (ps ++ [at_ t.much h]) := by
            unfold lV
            rw [List.map_append]
            rfl
          rw [ea]
          refine ⟨_, rfl, p, _, dx, _, _, rfl, by rw [upd_ne npq]; exact hpi, T.cTree, T.aAbove, tF_above _ _, _, rfl, al, _, _, vN (at_ t.above h), rfl, rfl, SqL.of (by rw [upd_ne nalq]; exact hab2), atI_nat (lV_at (by omega)), ?_⟩
          refine ⟨⟨at_ t.above h, j, ps ++ [at_ t.much h], rfl, by omega, j8, rfl, by rw [List.length_append]; simp; omega, fun y hy => ?_, .inl (by simp), ?_⟩, ?_⟩
          · rcases List.mem_append.mp hy with m | m
            · exact hw y m
            · rw [List.mem_singleton.mp m]
              exact W.w _
          · rw [he, least_gt W hgt h8, fold_put]
          · show (at_ t.above h : Int).toNat + (j : Int).toNat < (h : Int).toNat + (j : Int).toNat
            omega
        · rw [decide_eq_false (show ¬ (j : Int) < (h : Int) by omega)]
          refine iteF ?_
          have hl2 := W.lt j (by omega) j8
          refine ⟨_, rfl, .inl ⟨rfl, _, SqL.of upd_same⟩, _, rfl, p, _, dx, _, _, rfl, hp', T.cTree, T.aWeights, tF_weights _ _, _, rfl, wl, _, _, vN (at_ t.much j), rfl, rfl, SqL.of hw', atI_nat (lV_at (by omega)), q, _, _, rfl, rfl, upd_same, hps, ?_⟩
          rw [upd_upd]
          have ea : lV ps ++ [vN (at_ t.much j)] = lV (ps ++ [at_ t.much j]) := by
            unfold lV
            rw [List.map_append]
            rfl
          rw [ea]
          refine ⟨_, rfl, p, _, dx, _, _, rfl, by rw [upd_ne npq]; exact hpi, T.cTree, T.aAbove, tF_above _ _, _, rfl, al, _, _, vN (at_ t.above j), rfl, rfl, SqL.of (by rw [upd_ne nalq]; exact hab2), atI_nat (lV_at (by omega)), ?_⟩
          refine ⟨⟨h, at_ t.above j, ps ++ [at_ t.much j], rfl, h8, by omega, rfl, by rw [List.length_append]; simp; omega, fun y hy => ?_, .inl (by simp), ?_⟩, ?_⟩
          · rcases List.mem_append.mp hy with m | m
            · exact hw y m
            · rw [List.mem_singleton.mp m]
              exact W.w _
          · rw [he, least_lt W (by omega) j8, fold_put]
          · show (h : Int).toNat + (at_ t.above j : Int).toNat < (h : Int).toNat + (j : Int).toNat
            omega
    · rintro σ H' Q1 Q2 hq ⟨x, hx, y, hy, hs, c, hc, q⟩
      exact ⟨x, hx, y, hy, hs, c, hc, hq _ _ q⟩
end
end Mk
set_option Elab.async false
set_option linter.all false
set_option maxRecDepth 100000
set_option maxHeartbeats 2000000
namespace Mk
open PySem PySem.Spec PyProof.Rows L2 LamX NdefX
open Km361 (at_ act okPair only)
/-! ### the dict of the lines -/
def find : Dn → Nat → Option (Nat × Km361.Line × Nat)
  | [], _ => none
  | p :: r, k => if p.1 = k then some p else find r k
theorem look_find : ∀ (D : Dn) (k : Nat), look D k = (find D k).map (·.2.1)
  | [], _ => rfl
  | p :: r, k => by
    show (if p.1 = k then some p.2.1 else look r k) = (if p.1 = k then some p else find r k).map (·.2.1)
    by_cases e : p.1 = k
    · rw [if_pos e, if_pos e]
      rfl
    · rw [if_neg e, if_neg e]
      exact look_find r k
theorem find_mem : ∀ {D : Dn} {k : Nat} {p : Nat × Km361.Line × Nat}, find D k = some p → p ∈ D ∧ p.1 = k
  | q :: r, k, p, h => by
    have h : (if q.1 = k then some q else find r k) = some p := h
    by_cases e : q.1 = k
    · rw [if_pos e] at h
      cases h
      exact ⟨List.mem_cons_self .., e⟩
    · rw [if_neg e] at h
      have := find_mem h
      exact ⟨List.mem_cons_of_mem _ this.1, this.2⟩
theorem key_eq {a b : Nat} : ((Sum.inl (a : Int) : Key) = Sum.inl (b : Int)) ↔ a = b := by
  constructor
  · intro h
    have := Sum.inl.inj h
    omega
  · intro h
    rw [h]
theorem kv_find : ∀ (D : Dn) (k : Nat), valV (kvOf D) (Sum.inl (k : Int)) = (find D k).map fun p => V.ref p.2.2
  | [], _ => rfl
  | p :: r, k => by
    show valV ((Sum.inl (p.1 : Int), V.ref p.2.2) :: kvOf r) (Sum.inl (k : Int)) = (if p.1 = k then some p else find r k).map fun p => V.ref p.2.2
    by_cases e : p.1 = k
    · rw [if_pos e, valV_pos (key_eq.mpr e)]
      rfl
    · rw [if_neg e, valV_neg (fun z => e (key_eq.mp z))]
      exact kv_find r k
theorem kv_some (D : Dn) (k : Nat) : (valV (kvOf D) (Sum.inl (k : Int))).isSome = (look D k).isSome := by
  rw [kv_find, look_find]
  cases find D k <;> rfl
theorem kv_len (D : Dn) : (kvOf D).length = D.length := List.length_map ..
theorem kv_drop (D : Dn) (k : Nat) : dropK (kvOf D) (Sum.inl (k : Int)) = kvOf (dropD D k) := by
  unfold dropK kvOf dropD
  rw [List.filter_map]
  congr 1
  apply List.filter_congr
  intro p _
  show decide ((Sum.inl (p.1 : Int) : Key) ≠ Sum.inl (k : Int)) = decide (p.1 ≠ k)
  exact decide_eq_decide.mpr (not_congr key_eq)
theorem kv_snoc {D : Dn} {k : Nat} {l : Km361.Line} {t : Nat} (h : look D k = none) : putK (kvOf D) (Sum.inl (k : Int)) (V.ref t) = kvOf (D ++ [(k, l, t)]) := by
  have hn : valV (kvOf D) (Sum.inl (k : Int)) = none := by
    have := kv_some D k
    rw [h] at this
    cases e : valV (kvOf D) (Sum.inl (k : Int)) with
    | none => rfl
    | some v => rw [e] at this; cases this
  rw [putK_new _ hn]
  unfold kvOf
  rw [List.map_append]
  rfl
theorem kv_set {D : Dn} {k : Nat} {l : Km361.Line} {t : Nat} (h : (look D k).isSome = true) : putK (kvOf D) (Sum.inl (k : Int)) (V.ref t) = kvOf (setD D k l t) := by
  unfold putK
  rw [valV_any, kv_some, h, if_pos rfl]
  unfold kvOf setD
  rw [List.map_map, List.map_map]
  apply List.map_congr_left
  intro p _
  show (if (Sum.inl (p.1 : Int) : Key) = Sum.inl (k : Int) then ((Sum.inl (p.1 : Int) : Key), V.ref t) else (Sum.inl (p.1 : Int), V.ref p.2.2)) = (Sum.inl ((if p.1 = k then (k, l, t) else p).1 : Int), V.ref (if p.1 = k then (k, l, t) else p).2.2)
  by_cases e : p.1 = k
  · rw [if_pos e, if_pos (key_eq.mpr e), e]
  · rw [if_neg e, if_neg (fun z => e (key_eq.mp z))]
/-! ### the object in the heap -/
def nF (d : Addr) : List (Str × V) := [("lines", .ref d)]
theorem nF_lines (d : Addr) : (nF d).lookup ("lines" : Str) = some (.ref d) := lk_here
theorem nF_meth (d : Addr) {m : Str} (h : (m == ("lines" : Str)) = false) : (nF d).lookup m = none := (lk_past h).trans rfl
theorem nF_put (d d' : Addr) : putF "lines" (.ref d') (nF d) = nF d' := put_here
structure NetAt (K : PySem.W.Frag) (H : Hp) (p d : Addr) (D : Dn) : Prop where
  ins : ∃ dx, H p = some (.ins (He.ga K "Network") dx (nF d))
  ln : LinesAt H d D
  good : Good D
/-- what stands behind a call: the lists and what is locked -/
structure Frm (H H' : Hp) : Prop where
  ls : ∀ b xs, H b = some (.lst xs) → H' b = some (.lst xs)
  fz : ∀ b o u, H b = some (.frz o u) → H' b = some (.frz o u)
theorem Frm.of {H H' : Hp} (e : ExtN H H') : Frm H H' := ⟨fun b xs h => e _ _ h (fun _ z => nomatch z), fun b o u h => e _ _ h (fun _ z => nomatch z)⟩
theorem Frm.trans {H H1 H2 : Hp} (a : Frm H H1) (b : Frm H1 H2) : Frm H H2 := ⟨fun c xs h => b.ls c xs (a.ls c xs h), fun c o u h => b.fz c o u (a.fz c o u h)⟩
theorem NetAt.ext {K : PySem.W.Frag} {H H' : Hp} {p d : Addr} {D : Dn} (e : ExtN H H') (N : NetAt K H p d D) : NetAt K H' p d D :=
  ⟨let ⟨dx, h⟩ := N.ins; ⟨dx, e _ _ h fun _ z => nomatch z⟩, N.ln.ext e, N.good⟩
def ansV (a : Km361.Ans) : List V := (Km361Neutral.told a).map V.int
/-- what is wanted behind the call x -/
def EndsM (K : PySem.W.Frag) (H : Hp) (p : Addr) (D : Dn) (x : Km361.Call) (Q : VK) : Prop := ∀ (H' : Hp) (d' : Addr) (D' : Dn) (r : Addr), NetAt K H' p d' D' → nt D' = (act (nt D) x).1 → H' r = some (.lst (ansV (act (nt D) x).2)) → (∀ xs, H r ≠ some (.lst xs)) → Frm H H' → Tabs (tabT K) H' → Q (.ref r) H'
/-- the net is as it was: what is answered stands in a new list -/
theorem EndsM.same {K : PySem.W.Frag} {H H1 : Hp} {p d : Addr} {D : Dn} {x : Km361.Call} {Q : VK} {r : Addr} {xs : List V} (k : EndsM K H p D x Q) (N : NetAt K H p d D) (e : ExtN H H1) (T : Tabs (tabT K) H1) (hr : H1 r = none) (h1 : (act (nt D) x).1 = nt D) (h2 : ansV (act (nt D) x).2 = xs) :
    Q (.ref r) (upd H1 r (.lst xs)) := by
  have e2 : ExtN H (upd H1 r (.lst xs)) := e.trans (extN_of (same_upd (Same.refl H1) hr))
  exact k _ d D r (N.ext e2) h1.symm (by rw [h2, upd_same]) (fun ys z => by
    have z2 := e _ _ z fun _ q => nomatch q
    rw [hr] at z2
    cases z2) (Frm.of e2) (T.ext (same_upd (Same.refl H1) hr))
/-! ### what each call makes of the net -/
theorem act_bad_pair {n : Km361.Net} {a b m : Nat} (h : okPair a b = false ∨ 1000 < m) : act n (.line a b m) = (n, only (-22)) := by
  show (if okPair a b = false ∨ 1000 < m then (n, only (-22)) else _) = _
  rw [if_pos h]
theorem act_full {n : Km361.Net} {a b m : Nat} (h : ¬ (okPair a b = false ∨ 1000 < m)) (hf : n.free = none) : act n (.line a b m) = (n, only (-28)) := by
  show (if okPair a b = false ∨ 1000 < m then (n, only (-22)) else match n.free with | none => (n, only (-28)) | some k => (⟨n.lines.set k (some ⟨a, b, m⟩)⟩, only ((k : Nat) : Int))) = _
  rw [if_neg h, hf]
theorem act_line {n : Km361.Net} {a b m k : Nat} (h : ¬ (okPair a b = false ∨ 1000 < m)) (hf : n.free = some k) : act n (.line a b m) = (⟨n.lines.set k (some ⟨a, b, m⟩)⟩, only ((k : Nat) : Int)) := by
  show (if okPair a b = false ∨ 1000 < m then (n, only (-22)) else match n.free with | none => (n, only (-28)) | some k => (⟨n.lines.set k (some ⟨a, b, m⟩)⟩, only ((k : Nat) : Int))) = _
  rw [if_neg h, hf]
theorem ok_pair {a b : Nat} : okPair a b = true ↔ a < 8 ∧ b < 8 ∧ a ≠ b := by
  unfold okPair
  rw [Bool.and_eq_true, Bool.and_eq_true, decide_eq_true_iff, decide_eq_true_iff, decide_eq_true_iff]
  rfl
abbrev sNet (j : Nat) : Stmt := inClass (top 19) j
section
variable {P : Program} {w : World} {K : PySem.W.Frag} {mg : Str → Option Value} {base : Heap}
/-! ### refused, wrong_pair, least_free -/
def spRefused : Sp := fun vs H Q _ => ∃ i : Int, vs = [.int i] ∧ ∀ r, H r = none → Q (.ref r) (upd H r (.lst [.int (-i)]))
theorem scRef : FnScope ["reason"] ["reason"] (defScope (top 16)) := ⟨rfl, rfl, rfl, by decide +kernel, rfl, by decide +kernel, by decide +kernel⟩
theorem ok_refused {f : Addr} {fd : FuncData} (F : Fun K "refused" "refused" (top 16) f fd) : FnOk P w K mg base CX0 1 f fd ["reason"] spRefused := by
  refine F.ok scRef (fun vs H Q E h => ?_) (fun cdv A outer s H vs Q E hr h => ?_)
  · obtain ⟨i, rfl, _⟩ := h
    rfl
  · obtain ⟨i, rfl, k⟩ := h
    refine ⟨_, pss_one (ps_ret (pe_lst (pa_cons (pe_un un_neg (pv 0)) pa_nil))), ?_⟩
    exact ⟨_, rfl, i, rfl, by show 1 ≤ sizeLine; decide, k⟩
def spWrong : Sp := fun vs H Q _ => ∃ a b : Nat, vs = [vN a, vN b] ∧ Q (.bl (!okPair a b)) H
theorem scWrong : FnScope ["a", "b"] ["a", "b"] (defScope (top 17)) := ⟨rfl, rfl, rfl, by decide +kernel, rfl, by decide +kernel, by decide +kernel⟩
theorem ok_wrong {f : Addr} {fd : FuncData} (F : Fun K "wrong_pair" "wrong_pair" (top 17) f fd) (T : Tx K mg) : FnOk P w K mg base CX0 1 f fd ["a", "b"] spWrong := by
  refine F.ok scWrong (fun vs H Q E h => ?_) (fun cdv A outer s H vs Q E hr h => ?_)
  · obtain ⟨a, b, rfl, _⟩ := h
    rfl
  · obtain ⟨a, b, rfl, k⟩ := h
    obtain ⟨tp, hp⟩ := T.places
    refine ⟨_, pss_one (ps_ret (pe_or (pe_cmpR op_ge (pv 0) (pe_ci rfl hp) (nomark _)) (pe_or (pe_cmpR op_ge (pv 1) (pe_ci rfl hp) (nomark _)) (pe_one (pe_cmpR op_eq (pv 0) (pv 1) (nomark _)))))), ?_⟩
    refine ⟨_, rfl, _, _, rfl, rfl, _, rfl, ?_⟩
    by_cases ha : a < 8
    · rw [decide_eq_false (show ¬ (8 : Int) ≤ (a : Int) by omega)]
      refine iteF ?_
      refine ⟨_, rfl, _, _, rfl, rfl, _, rfl, ?_⟩
      by_cases hb : b < 8
      · rw [decide_eq_false (show ¬ (8 : Int) ≤ (b : Int) by omega)]
        refine iteF ?_
        refine ⟨_, rfl, _, rfl, rfl, ?_⟩
        have e : decide (vN a = vN b) = !okPair a b := by
          by_cases hab : a = b
          · rw [decide_eq_true (vN_inj.mpr hab)]
            have : okPair a b = false := by
              cases q : okPair a b with
              | false => rfl
              | true => exact absurd hab (ok_pair.mp q).2.2
            rw [this]
            rfl
          · rw [decide_eq_false (fun z => hab (vN_inj.mp z)), ok_pair.mpr ⟨ha, hb, hab⟩]
            rfl
        rw [e]
        exact k
      · rw [decide_eq_true (show (8 : Int) ≤ (b : Int) by omega)]
        refine iteT ?_
        have : okPair a b = false := by
          cases q : okPair a b with
          | false => rfl
          | true => exact absurd (ok_pair.mp q).2.1 hb
        rw [this] at k
        exact k
    · rw [decide_eq_true (show (8 : Int) ≤ (a : Int) by omega)]
      refine iteT ?_
      have : okPair a b = false := by
        cases q : okPair a b with
        | false => rfl
        | true => exact absurd (ok_pair.mp q).1 ha
      rw [this] at k
      exact k
def spFree : Sp := fun vs H Q _ => ∃ (d : Addr) (D : Dn), vs = [.ref d] ∧ LinesAt H d D ∧ Good D ∧ D.length < 24 ∧ ∀ k, k < 24 → look D k = none → (∀ j, j < k → (look D j).isSome = true) → Q (vN k) H
theorem scFree : FnScope ["lines", "number"] ["lines"] (defScope (top 18)) := ⟨rfl, rfl, rfl, by decide +kernel, rfl, by decide +kernel, by decide +kernel⟩
def leftN (σ : L2.St) : Nat := match σ with
  | [_, some (.int i)] => 24 - i.toNat
  | _ => 0
theorem ok_free {f : Addr} {fd : FuncData} (F : Fun K "least_free" "least_free" (top 18) f fd) : FnOk P w K mg base CX0 1 f fd ["lines"] spFree := by
  refine F.ok scFree (fun vs H Q E h => ?_) (fun cdv A outer s H vs Q E hr h => ?_)
  · obtain ⟨d, D, rfl, _⟩ := h
    rfl
  · obtain ⟨d, D, rfl, L, g, hlen, k⟩ := h
    have hu := hu_of hr
    obtain ⟨k0, hk0, hf0⟩ := some_free g hlen
    refine ⟨_, pss_cons (ps_set (i := 1) scFree.nd rfl (Or.inl rfl) pe_int)
      (pss_cons (ps_while PassesOwn.never (pt_cmp (pc_din hu (pv 1) (pv 0))) (pss_one (ps_aug (i := 1) scFree.nd rfl (Or.inl rfl) pe_int ip_add)))
      (pss_one (ps_ret (pv 1)))), ?_⟩
    refine while_by (fun σ H' => ∃ n : Nat, σ = [some (.ref d), some (vN n)] ∧ H' = H ∧ n ≤ k0 ∧ ∀ j, j < n → (look D j).isSome = true) (fun σ _ => leftN σ) ⟨0, rfl, rfl, Nat.zero_le _, fun j hj => by omega⟩ ?_ ?_
    · rintro σ H' ⟨n, rfl, rfl, hn, hj⟩
      refine ⟨_, rfl, _, rfl, d, _, rfl, DGet.k (k := Sum.inl (n : Int)) L.dict, _, rfl, ?_⟩
      rw [kv_some]
      cases hl : look D n with
      | some l =>
        refine iteT ?_
        have hne : n ≠ k0 := fun z => by
          rw [z, hf0] at hl
          cases hl
        refine ⟨_, rfl, _, _, rfl, rfl, ⟨n + 1, rfl, rfl, by omega, fun j hj' => ?_⟩, ?_⟩
        · by_cases z : j = n
          · rw [z, hl]
            rfl
          · exact hj j (by omega)
        · show 24 - ((n : Int) + 1).toNat < 24 - (n : Int).toNat
          omega
      | none =>
        refine iteF ?_
        exact ⟨_, rfl, k n (by omega) hl hj⟩
    · rintro σ H' Q1 Q2 hq ⟨x, hx, y, hy, a, o, ea, hd, c, hc, q⟩
      exact ⟨x, hx, y, hy, a, o, ea, hd, c, hc, hq _ _ q⟩
end
end Mk
set_option Elab.async false
set_option linter.all false
set_option maxRecDepth 100000
set_option maxHeartbeats 2000000
namespace Mk
open PySem PySem.Spec PyProof.Rows L2 LamX NdefX
open Km361 (at_ act okPair only)
section
variable {P : Program} {w : World} {K : PySem.W.Frag} {mg : Str → Option Value} {base : Heap}
/-! ### Network.__init__, start_anew -/
def spNInit (K : PySem.W.Frag) : Sp := fun vs H Q _ => ∃ (p dx : Addr), vs = [.ref p] ∧ H p = some (.ins (He.ga K "Network") dx []) ∧ ∀ H' d, NetAt K H' p d [] → (∀ b o, H b = some o → b ≠ p → H' b = some o) → Q .non H'
theorem scNInit : FnScope ["self"] ["self"] (defScope (sNet 0)) := ⟨rfl, rfl, rfl, by decide +kernel, rfl, by decide +kernel, by decide +kernel⟩
theorem ok_ninit {f : Addr} {fd : FuncData} (F : Fun K "__init__" "Network.__init__" (sNet 0) f fd) (T : Tx K mg) : FnOk P w K mg base CX0 1 f fd ["self"] (spNInit K) := by
  refine F.ok scNInit (fun vs H Q E h => ?_) (fun cdv A outer s H vs Q E hr h => ?_)
  · obtain ⟨p, dx, rfl, _⟩ := h
    rfl
  · obtain ⟨p, dx, rfl, hp, k⟩ := h
    refine ⟨_, pss_one (ps_fld (pv 0) pe_dnewK rfl), ?_⟩
    intro d hd
    have npd : p ≠ d := ne_of_none hp hd
    refine ⟨_, rfl, p, _, dx, [], rfl, by rw [upd_ne npd]; exact hp, T.cNet, T.aLines, by show 0 < 1000; decide, ?_⟩
    refine k _ d ⟨⟨dx, upd_same⟩, ⟨by rw [upd_ne npd.symm, upd_same]; rfl, fun q hq => absurd hq (by simp)⟩, good_nil⟩ fun b o e hb => ?_
    rw [upd_ne hb, upd_ne (ne_of_none e hd)]
    exact e
def spM0 (K : PySem.W.Frag) (x : Km361.Call) : Sp := fun vs H Q _ => ∃ (p d : Addr) (D : Dn), vs = [.ref p] ∧ NetAt K H p d D ∧ Tabs (tabT K) H ∧ EndsM K H p D x Q
def spM1 (K : PySem.W.Frag) (x : Nat → Km361.Call) : Sp := fun vs H Q _ => ∃ (p d : Addr) (D : Dn) (a : Nat), vs = [.ref p, vN a] ∧ NetAt K H p d D ∧ Tabs (tabT K) H ∧ EndsM K H p D (x a) Q
def spM2 (K : PySem.W.Frag) (x : Nat → Nat → Km361.Call) : Sp := fun vs H Q _ => ∃ (p d : Addr) (D : Dn) (a b : Nat), vs = [.ref p, vN a, vN b] ∧ NetAt K H p d D ∧ Tabs (tabT K) H ∧ EndsM K H p D (x a b) Q
def spM3 (K : PySem.W.Frag) (x : Nat → Nat → Nat → Km361.Call) : Sp := fun vs H Q _ => ∃ (p d : Addr) (D : Dn) (a b c : Nat), vs = [.ref p, vN a, vN b, vN c] ∧ NetAt K H p d D ∧ Tabs (tabT K) H ∧ EndsM K H p D (x a b c) Q
theorem scStart : FnScope ["self"] ["self"] (defScope (sNet 1)) := ⟨rfl, rfl, rfl, by decide +kernel, rfl, by decide +kernel, by decide +kernel⟩
theorem ok_start {f : Addr} {fd : FuncData} (F : Fun K "start_anew" "Network.start_anew" (sNet 1) f fd) (T : Tx K mg) : FnOk P w K mg base CX0 2 f fd ["self"] (spM0 K .start) := by
  refine F.ok scStart (fun vs H Q E h => ?_) (fun cdv A outer s H vs Q E hr h => ?_)
  · obtain ⟨p, d, D, rfl, _⟩ := h
    rfl
  · obtain ⟨p, d, D, rfl, N, hT, k⟩ := h
    obtain ⟨dx, hp⟩ := N.ins
    refine ⟨_, pss_cons (ps_fld (pv 0) pe_dnewK rfl) (pss_one (ps_ret (pe_lst (pa_cons pe_int pa_nil)))), ?_⟩
    intro d2 hd
    have npd : p ≠ d2 := ne_of_none hp hd
    refine ⟨_, rfl, p, _, dx, _, rfl, by rw [upd_ne npd]; exact hp, T.cNet, T.aLines, by show 1 < 1000; decide, ?_⟩
    rw [nF_put]
    refine ⟨by show 1 ≤ sizeLine; decide, fun r hr => ?_⟩
    have nrp : r ≠ p := fun z => by
      rw [z, upd_same] at hr
      cases hr
    have nrd : r ≠ d2 := fun z => by
      rw [z, upd_ne npd.symm, upd_same] at hr
      cases hr
    have hr0 : H r = none := by
      rw [upd_ne nrp, upd_ne nrd] at hr
      exact hr
    have kp : ∀ b o, H b = some o → b ≠ p → (upd (upd (upd H d2 (.dK [])) p (.ins (He.ga K "Network") dx (nF d2))) r (.lst [V.int 0])) b = some o := fun b o hb hn => by
      rw [upd_ne (ne_of_none hb hr0), upd_ne hn, upd_ne (ne_of_none hb hd)]
      exact hb
    refine k _ d2 [] r ⟨⟨dx, by rw [upd_ne nrp.symm, upd_same]⟩, ⟨by rw [upd_ne nrd.symm, upd_ne npd.symm, upd_same]; rfl, fun q hq => absurd hq (by simp)⟩, good_nil⟩ nt_nil (by rw [upd_same]; rfl) (fun xs z => by rw [hr0] at z; cases z)
      ⟨(fun b xs e => kp b _ e fun z => by rw [z, hp] at e; cases e), (fun b o u e => kp b _ e fun z => by rw [z, hp] at e; cases e)⟩ (tabs_keep hT fun b o e hc => kp b o e fun z => by
        rw [z, hp] at e
        exact hc.2.2 _ _ _ (Option.some.inj e).symm)
/-! ### add_line -/
theorem scLine : FnScope ["self", "a", "b", "most", "number"] ["self", "a", "b", "most"] (defScope (sNet 2)) := ⟨rfl, rfl, rfl, by decide +kernel, rfl, by decide +kernel, by decide +kernel⟩
theorem d_small {D : Dn} (g : Good D) : (kvOf D).length < sizeLine := by
  rw [kv_len]
  exact Nat.lt_of_le_of_lt (len_le g) (by decide)
/-- the dict and the tuples stand anew; else all is as it was -/
theorem EndsM.put {H : Hp} {p d : Addr} {D D' : Dn} {x : Km361.Call} {Q : VK} {r : Addr} {xs : List V} {H2 : Hp} (k : EndsM K H p D x Q) (N : NetAt K H p d D) (hT : Tabs (tabT K) H) (hd : H2 d = some (.dK (kvOf D'))) (kp : ∀ b o, H b = some o → b ≠ d → H2 b = some o)
    (ht : ∀ q ∈ D', H2 q.2.2 = some (.tup (tupOf q.2.1))) (g : Good D') (hr : H2 r = none) (h1 : nt D' = (act (nt D) x).1) (h2 : ansV (act (nt D) x).2 = xs) : Q (.ref r) (upd H2 r (.lst xs)) := by
  obtain ⟨dx, hp⟩ := N.ins
  have npd : p ≠ d := ne_of hp N.ln.dict (by intro z; cases z)
  have kr : ∀ b o, H2 b = some o → upd H2 r (.lst xs) b = some o := fun b o e => by
    rw [upd_ne (ne_of_none e hr)]
    exact e
  have kl : ∀ b o, H b = some o → b ≠ d → upd H2 r (.lst xs) b = some o := fun b o e n => kr b o (kp b o e n)
  have nd : ∀ b o, H b = some o → (∀ kvs, o ≠ .dK kvs) → b ≠ d := fun b o e n z => by
    rw [z, N.ln.dict] at e
    exact n _ (Option.some.inj e).symm
  refine k _ d D' r ⟨⟨dx, kl _ _ hp npd⟩, ⟨kr _ _ hd, fun q hq => kr _ _ (ht q hq)⟩, g⟩ h1 (by rw [h2, upd_same]) (fun ys z => ?_) ⟨(fun b ys e => kl b _ e (nd b _ e fun _ z => nomatch z)), (fun b o u e => kl b _ e (nd b _ e fun _ z => nomatch z))⟩ (tabs_keep hT fun b o e hc => kl b o e (nd b o e hc.2.1))
  have z2 := kp _ _ z (nd _ _ z fun _ q => nomatch q)
  rw [hr] at z2
  cases z2
theorem ok_line {f : Addr} {fd : FuncData} (F : Fun K "add_line" "Network.add_line" (sNet 2) f fd) (T : Tx K mg) (GW : Cal P w K mg base 1 (He.ga K "wrong_pair") ["a", "b"] spWrong) (GR : Cal P w K mg base 1 (He.ga K "refused") ["reason"] spRefused)
    (GF : Cal P w K mg base 1 (He.ga K "least_free") ["lines"] spFree) : FnOk P w K mg base CX0 2 f fd ["self", "a", "b", "most"] (spM3 K .line) := by
  obtain ⟨fdW, fW, bW, kW⟩ := GW
  obtain ⟨fdR, fR, bR, kR⟩ := GR
  obtain ⟨fdF, fF, bF, kF⟩ := GF
  refine F.ok scLine (fun vs H Q E h => ?_) (fun cdv A outer s H vs Q E hr h => ?_)
  · obtain ⟨p, d, D, a, b, m, rfl, _⟩ := h
    rfl
  · obtain ⟨p, d, D, a, b, m, rfl, N, hT, k⟩ := h
    obtain ⟨dx, hp⟩ := N.ins
    have hu := hu_of hr
    obtain ⟨t1, h1⟩ := T.mthrough
    obtain ⟨t2, h2⟩ := T.wrv
    obtain ⟨t3, h3⟩ := T.mlines
    obtain ⟨t4, h4⟩ := T.nor
    refine ⟨_, pss_cons (ps_if (PW.pt (pw_or (pt_val (pe_call fW hr rfl T.gWrong kW bW .nil pass0 (pa_cons (pv 1) (pa_cons (pv 2) pa_nil)))) (pw_or1 (pt_cmpR op_gt (pv 3) (pe_ci rfl h1) (nomark _)))))
        (pss_one (ps_ret (pe_call fR hr rfl T.gRef kR bR .nil pass0 (pa_cons (pe_ci rfl h2) pa_nil)))) pss_nil)
      (pss_cons (ps_if (pt_cmpR op_ge (pe_callB call_lenD (by rfl) T.len PySem.boot_len (pa_cons (pe_fld (pv 0) rfl) pa_nil)) (pe_ci rfl h3) (nomark _))
        (pss_one (ps_ret (pe_call fR hr rfl T.gRef kR bR .nil pass0 (pa_cons (pe_ci rfl h4) pa_nil)))) pss_nil)
      (pss_cons (ps_set (i := 4) scLine.nd rfl (Or.inl rfl) (pe_call fF hr rfl T.gFree kF bF .nil pass0 (pa_cons (pe_fld (pv 0) rfl) pa_nil)))
      (pss_cons (ps_dput hu (pe_fld (pv 0) rfl) (pv 4) (pe_tup (pa_cons (pv 1) (pa_cons (pv 2) (pa_cons (pv 3) pa_nil)))) rfl)
      (pss_one (ps_ret (pe_lst (pa_cons (pv 4) pa_nil))))))), ?_⟩
    refine ⟨_, rfl, _, rfl, a, b, rfl, _, rfl, ?_⟩
    have bad : (okPair a b = false ∨ 1000 < m) → tRet (tCall spRefused [] E0 (tCons (tC (.int 22)) tNil)) { nx := fun _ H' => Q .non H', rt := Q } (L2.start ["self", "a", "b", "most", "number"] [V.ref p, vN a, vN b, vN m]) H := fun hb =>
      ⟨22, rfl, fun r hr2 => EndsM.same k N (ExtN.refl H) hT hr2 (by rw [act_bad_pair hb]) (by rw [act_bad_pair hb]; rfl)⟩
    cases hok : okPair a b with
    | false =>
      refine iteT ?_
      refine iteT ?_
      exact bad (.inl hok)
    | true =>
      refine iteF ?_
      refine ⟨_, rfl, _, _, rfl, rfl, _, rfl, ?_⟩
      by_cases hm : 1000 < m
      · rw [decide_eq_true (show (1000 : Int) < (m : Int) by omega)]
        refine iteT ?_
        exact bad (.inr hm)
      · rw [decide_eq_false (show ¬ (1000 : Int) < (m : Int) by omega)]
        refine iteF ?_
        have hnb : ¬ (okPair a b = false ∨ 1000 < m) := fun z => z.elim (fun z => by rw [hok] at z; cases z) hm
        refine ⟨_, rfl, p, _, dx, _, _, rfl, hp, T.cNet, T.aLines, nF_lines d, d, _, rfl, N.ln.dict, _, _, rfl, rfl, _, rfl, ?_⟩
        rw [kv_len]
        by_cases hlen : 24 ≤ D.length
        · rw [decide_eq_true (show (24 : Int) ≤ (D.length : Int) by omega)]
          refine iteT ?_
          have hf := free_none N.good hlen
          exact ⟨28, rfl, fun r hr2 => EndsM.same k N (ExtN.refl H) hT hr2 (by rw [act_full hnb hf]) (by rw [act_full hnb hf]; rfl)⟩
        · rw [decide_eq_false (show ¬ (24 : Int) ≤ (D.length : Int) by omega)]
          refine iteF ?_
          refine ⟨_, rfl, p, _, dx, _, _, rfl, hp, T.cNet, T.aLines, nF_lines d, d, D, rfl, N.ln, N.good, by omega, fun n hn hf hj => ?_⟩
          have hfree := free_some N.good hn hf hj
          refine ⟨_, rfl, _, rfl, _, rfl, by show 3 ≤ sizeLine; decide, fun t ht => ?_⟩
          have npt : p ≠ t := ne_of_none hp ht
          have ndt : d ≠ t := ne_of_none N.ln.dict ht
          refine ⟨_, rfl, p, _, dx, _, _, rfl, by rw [upd_ne npt]; exact hp, T.cNet, T.aLines, nF_lines d, _, rfl, d, _, rfl, DPut.k (k := Sum.inl (n : Int)) (by rw [upd_ne ndt]; exact N.ln.dict) (d_small N.good), ?_⟩
          refine ⟨_, rfl, by show 1 ≤ sizeLine; decide, fun r hr2 => ?_⟩
          rw [kv_snoc (l := ⟨a, b, m⟩) hf] at hr2 ⊢
          obtain ⟨ha8, hb8, hab⟩ := ok_pair.mp hok
          refine EndsM.put k N hT (D' := D ++ [(n, ⟨a, b, m⟩, t)]) upd_same (fun b' o e hb => ?_) (fun q hq => ?_) (good_snoc N.good hf hn ha8 hb8 (by show m ≤ 1000; omega)) hr2 ?_ ?_
          · rw [upd_ne hb, upd_ne (ne_of_none e ht)]
            exact e
          · rcases List.mem_append.mp hq with z | z
            · have hq' := N.ln.tups q z
              rw [upd_ne (ne_of hq' N.ln.dict (by intro z; cases z)), upd_ne (ne_of_none hq' ht)]
              exact hq'
            · rw [List.mem_singleton.mp z, upd_ne ndt.symm, upd_same]
              rfl
          · rw [act_line hnb hfree]
            exact nt_set (look_snoc hf)
          · rw [act_line hnb hfree]
            rfl
/-! ### drop_line -/
theorem scDrop : FnScope ["self", "line"] ["self", "line"] (defScope (sNet 3)) := ⟨rfl, rfl, rfl, by decide +kernel, rfl, by decide +kernel, by decide +kernel⟩
theorem act_drop_no {D : Dn} (g : Good D) {k : Nat} (h : look D k = none) : act (nt D) (.drop k) = (nt D, only (-2)) := by
  show (if ((nt D).line k).isNone = true then (nt D, only (-2)) else _) = _
  rw [nt_line g, h]
  rfl
theorem act_drop {D : Dn} (g : Good D) {k : Nat} (h : (look D k).isSome = true) : act (nt D) (.drop k) = (⟨(nt D).lines.set k none⟩, only 0) := by
  show (if ((nt D).line k).isNone = true then (nt D, only (-2)) else (⟨(nt D).lines.set k none⟩, only 0)) = _
  rw [nt_line g]
  cases e : look D k with
  | none =>
    rw [e] at h
    cases h
  | some l => rfl
theorem ok_drop {f : Addr} {fd : FuncData} (F : Fun K "drop_line" "Network.drop_line" (sNet 3) f fd) (T : Tx K mg) (GR : Cal P w K mg base 1 (He.ga K "refused") ["reason"] spRefused) : FnOk P w K mg base CX0 2 f fd ["self", "line"] (spM1 K .drop) := by
  obtain ⟨fdR, fR, bR, kR⟩ := GR
  refine F.ok scDrop (fun vs H Q E h => ?_) (fun cdv A outer s H vs Q E hr h => ?_)
  · obtain ⟨p, d, D, a, rfl, _⟩ := h
    rfl
  · obtain ⟨p, d, D, n, rfl, N, hT, k⟩ := h
    obtain ⟨dx, hp⟩ := N.ins
    have hu := hu_of hr
    obtain ⟨t2, h2⟩ := T.nsl
    refine ⟨_, pss_cons (ps_if (pt_cmp (pc_dnotin hu (pv 1) (pe_fld (pv 0) rfl))) (pss_one (ps_ret (pe_call fR hr rfl T.gRef kR bR .nil pass0 (pa_cons (pe_ci rfl h2) pa_nil)))) pss_nil)
      (pss_cons (ps_expr (pe_dpop1 (pe_fld (pv 0) rfl) (pv 1) ⟨rfl, rfl, rfl, rfl⟩)) (pss_one (ps_ret (pe_lst (pa_cons pe_int pa_nil))))), ?_⟩
    refine ⟨_, rfl, _, rfl, p, _, dx, _, _, rfl, hp, T.cNet, T.aLines, nF_lines d, d, _, rfl, DGet.k (k := Sum.inl (n : Int)) N.ln.dict, _, rfl, ?_⟩
    rw [kv_some]
    cases hl : look D n with
    | none =>
      refine iteT ?_
      exact ⟨2, rfl, fun r hr2 => EndsM.same k N (ExtN.refl H) hT hr2 (by rw [act_drop_no N.good hl]) (by rw [act_drop_no N.good hl]; rfl)⟩
    | some l =>
      refine iteF ?_
      have hs : (look D n).isSome = true := by rw [hl]; rfl
      obtain ⟨v, hv⟩ : ∃ v, valV (kvOf D) (Sum.inl (n : Int)) = some v := Option.isSome_iff_exists.mp (by rw [kv_some, hs])
      refine ⟨_, rfl, p, _, dx, _, _, rfl, hp, T.cNet, T.aLines, nF_lines d, d, rfl, .inl ⟨_, Rd.of N.ln.dict⟩, _, rfl, kvOf D, Sum.inl (n : Int), v, N.ln.dict, rfl, hv, by show 1 ≤ sizeLine; decide, fun r hr2 => ?_⟩
      rw [kv_drop] at hr2 ⊢
      refine EndsM.put k N hT (D' := dropD D n) upd_same (fun b o e hb => by rw [upd_ne hb]; exact e) (fun q hq => ?_) (good_drop N.good n) hr2 ?_ ?_
      · have hq' := N.ln.tups q (List.mem_filter.mp hq).1
        rw [upd_ne (ne_of hq' N.ln.dict (by intro z; cases z))]
        exact hq'
      · rw [act_drop N.good hs]
        exact nt_set (look_drop D n)
      · rw [act_drop N.good hs]
        rfl
/-! ### widen_line -/
theorem scWide : FnScope ["self", "line", "most", "ends"] ["self", "line", "most"] (defScope (sNet 4)) := ⟨rfl, rfl, rfl, by decide +kernel, rfl, by decide +kernel, by decide +kernel⟩
theorem act_wide_bad {n : Km361.Net} {k m : Nat} (h : 1000 < m) : act n (.wide k m) = (n, only (-22)) := by
  show (if 1000 < m then (n, only (-22)) else _) = _
  rw [if_pos h]
theorem act_wide_no {D : Dn} (g : Good D) {k m : Nat} (h : ¬ 1000 < m) (hl : look D k = none) : act (nt D) (.wide k m) = (nt D, only (-2)) := by
  show (if 1000 < m then (nt D, only (-22)) else match (nt D).line k with | none => (nt D, only (-2)) | some l => (⟨(nt D).lines.set k (some ⟨l.a, l.b, m⟩)⟩, only 0)) = _
  rw [if_neg h, nt_line g, hl]
theorem act_wide {D : Dn} (g : Good D) {k m : Nat} {l : Km361.Line} (h : ¬ 1000 < m) (hl : look D k = some l) : act (nt D) (.wide k m) = (⟨(nt D).lines.set k (some ⟨l.a, l.b, m⟩)⟩, only 0) := by
  show (if 1000 < m then (nt D, only (-22)) else match (nt D).line k with | none => (nt D, only (-2)) | some l => (⟨(nt D).lines.set k (some ⟨l.a, l.b, m⟩)⟩, only 0)) = _
  rw [if_neg h, nt_line g, hl]
theorem ok_wide {f : Addr} {fd : FuncData} (F : Fun K "widen_line" "Network.widen_line" (sNet 4) f fd) (T : Tx K mg) (GR : Cal P w K mg base 1 (He.ga K "refused") ["reason"] spRefused) : FnOk P w K mg base CX0 2 f fd ["self", "line", "most"] (spM2 K .wide) := by
  obtain ⟨fdR, fR, bR, kR⟩ := GR
  refine F.ok scWide (fun vs H Q E h => ?_) (fun cdv A outer s H vs Q E hr h => ?_)
  · obtain ⟨p, d, D, a, b, rfl, _⟩ := h
    rfl
  · obtain ⟨p, d, D, n, m, rfl, N, hT, k⟩ := h
    obtain ⟨dx, hp⟩ := N.ins
    have hu := hu_of hr
    obtain ⟨t1, h1⟩ := T.mthrough
    obtain ⟨t2, h2⟩ := T.nsl
    obtain ⟨t3, h3⟩ := T.wrv
    refine ⟨_, pss_cons (ps_if (pt_cmpR op_gt (pv 2) (pe_ci rfl h1) (nomark _)) (pss_one (ps_ret (pe_call fR hr rfl T.gRef kR bR .nil pass0 (pa_cons (pe_ci rfl h3) pa_nil)))) pss_nil)
      (pss_cons (ps_if (pt_cmp (pc_dnotin hu (pv 1) (pe_fld (pv 0) rfl))) (pss_one (ps_ret (pe_call fR hr rfl T.gRef kR bR .nil pass0 (pa_cons (pe_ci rfl h2) pa_nil)))) pss_nil)
      (pss_cons (ps_set (i := 3) scWide.nd rfl (Or.inl rfl) (pe_dget hu (pe_fld (pv 0) rfl) (pv 1) (fun _ _ => rfl)))
      (pss_cons (ps_dput hu (pe_fld (pv 0) rfl) (pv 1) (pe_tup (pa_cons (pe_ix ix_tup (pv 3) pe_int (fun _ _ => rfl)) (pa_cons (pe_ix ix_tup (pv 3) pe_int (fun _ _ => rfl)) (pa_cons (pv 2) pa_nil)))) rfl)
      (pss_one (ps_ret (pe_lst (pa_cons pe_int pa_nil))))))), ?_⟩
    refine ⟨_, rfl, _, _, rfl, rfl, _, rfl, ?_⟩
    by_cases hm : 1000 < m
    · rw [decide_eq_true (show (1000 : Int) < (m : Int) by omega)]
      refine iteT ?_
      exact ⟨22, rfl, fun r hr2 => EndsM.same k N (ExtN.refl H) hT hr2 (by rw [act_wide_bad hm]) (by rw [act_wide_bad hm]; rfl)⟩
    · rw [decide_eq_false (show ¬ (1000 : Int) < (m : Int) by omega)]
      refine iteF ?_
      refine ⟨_, rfl, _, rfl, p, _, dx, _, _, rfl, hp, T.cNet, T.aLines, nF_lines d, d, _, rfl, DGet.k (k := Sum.inl (n : Int)) N.ln.dict, _, rfl, ?_⟩
      rw [kv_some]
      cases hl : look D n with
      | none =>
        refine iteT ?_
        exact ⟨2, rfl, fun r hr2 => EndsM.same k N (ExtN.refl H) hT hr2 (by rw [act_wide_no N.good hm hl]) (by rw [act_wide_no N.good hm hl]; rfl)⟩
      | some l =>
        refine iteF ?_
        have hs : (look D n).isSome = true := by rw [hl]; rfl
        obtain ⟨q, hq, hql⟩ : ∃ q, find D n = some q ∧ q.2.1 = l := by
          rw [look_find] at hl
          cases e : find D n with
          | none =>
            rw [e] at hl
            cases hl
          | some q =>
            rw [e] at hl
            exact ⟨q, rfl, Option.some.inj hl⟩
        have hqt := N.ln.tups q (find_mem hq).1
        rw [hql] at hqt
        have hv : some (V.ref q.2.2) = valV (kvOf D) (Sum.inl (n : Int)) := by rw [kv_find, hq]; rfl
        refine ⟨_, rfl, p, _, dx, _, _, rfl, hp, T.cNet, T.aLines, nF_lines d, _, rfl, d, V.ref q.2.2, rfl, by rw [hv]; exact DGet.k (k := Sum.inl (n : Int)) N.ln.dict, ?_⟩
        refine ⟨_, rfl, q.2.2, _, _, vN l.a, rfl, rfl, SqT.of hqt, rfl, _, rfl, q.2.2, _, _, vN l.b, rfl, rfl, SqT.of hqt, rfl, _, rfl, by show 3 ≤ sizeLine; decide, fun t ht => ?_⟩
        have npt : p ≠ t := ne_of_none hp ht
        have ndt : d ≠ t := ne_of_none N.ln.dict ht
        refine ⟨_, rfl, p, _, dx, _, _, rfl, by rw [upd_ne npt]; exact hp, T.cNet, T.aLines, nF_lines d, _, rfl, d, _, rfl, DPut.k (k := Sum.inl (n : Int)) (by rw [upd_ne ndt]; exact N.ln.dict) (d_small N.good), ?_⟩
        refine ⟨by show 1 ≤ sizeLine; decide, fun r hr2 => ?_⟩
        rw [kv_set (l := ⟨l.a, l.b, m⟩) hs] at hr2 ⊢
        obtain ⟨_, ha8, hb8, _⟩ := look_good N.good hl
        refine EndsM.put k N hT (D' := setD D n ⟨l.a, l.b, m⟩ t) upd_same (fun b' o e hb => ?_) (fun q2 hq2 => ?_) (good_set N.good ha8 hb8 (by show m ≤ 1000; omega)) hr2 ?_ ?_
        · rw [upd_ne hb, upd_ne (ne_of_none e ht)]
          exact e
        · obtain ⟨q3, hq3, e3⟩ := List.mem_map.mp hq2
          by_cases z : q3.1 = n
          · rw [if_pos z] at e3
            rw [← e3, upd_ne ndt.symm, upd_same]
            rfl
          · rw [if_neg z] at e3
            rw [← e3]
            have hq' := N.ln.tups q3 hq3
            rw [upd_ne (ne_of hq' N.ln.dict (by intro z; cases z)), upd_ne (ne_of_none hq' ht)]
            exact hq'
        · rw [act_wide N.good hm hl]
          exact nt_set (look_set hs)
        · rw [act_wide N.good hm hl]
          rfl
end
end Mk
set_option Elab.async false
set_option linter.all false
set_option maxRecDepth 100000
set_option maxHeartbeats 2000000
namespace Mk
open PySem PySem.Spec PyProof.Rows L2 LamX NdefX
open Km361 (at_ act okPair only)
section
variable {P : Program} {w : World} {K : PySem.W.Frag} {mg : Str → Option Value} {base : Heap}
/-! ### between -/
theorem scBetw : FnScope ["self", "a", "b", "cut"] ["self", "a", "b"] (defScope (sNet 5)) := ⟨rfl, rfl, rfl, by decide +kernel, rfl, by decide +kernel, by decide +kernel⟩
theorem act_betw_bad {n : Km361.Net} {a b : Nat} (h : okPair a b = false) : (act n (.between a b)).2 = only (-22) := by
  show (if okPair a b = false then only (-22) else _) = _
  rw [if_pos h]
theorem act_betw {n : Km361.Net} {a b : Nat} (h : okPair a b = true) : (act n (.between a b)).2 = ⟨((n.edge (n.side a b) : Nat) : Int), [n.side a b]⟩ := by
  show (if okPair a b = false then only (-22) else ⟨((n.between a b : Nat) : Int), [n.side a b]⟩) = _
  rw [if_neg (by rw [h]; simp)]
  rfl
theorem ok_betw {f : Addr} {fd : FuncData} (F : Fun K "between" "Network.between" (sNet 5) f fd) (T : Tx K mg) (GW : Cal P w K mg base 1 (He.ga K "wrong_pair") ["a", "b"] spWrong) (GR : Cal P w K mg base 1 (He.ga K "refused") ["reason"] spRefused)
    (GE : Cal P w K mg base 1 (He.ga K "edge_of") ["lines", "side"] spEdge) (GC : Cal P w K mg base 5 (He.ga K "cut_of") ["lines", "a", "b"] (spCut K)) : FnOk P w K mg base CX0 6 f fd ["self", "a", "b"] (spM2 K .between) := by
  obtain ⟨fdW, fW, bW, kW⟩ := GW
  obtain ⟨fdR, fR, bR, kR⟩ := GR
  obtain ⟨fdE, fE, bE, kE⟩ := GE
  obtain ⟨fdC, fC, bC, kC⟩ := GC
  refine F.ok scBetw (fun vs H Q E h => ?_) (fun cdv A outer s H vs Q E hr h => ?_)
  · obtain ⟨p, d, D, a, b, rfl, _⟩ := h
    rfl
  · obtain ⟨p, d, D, a, b, rfl, N, hT, k⟩ := h
    obtain ⟨dx, hp⟩ := N.ins
    have hr1 : Room 1 _ := hr.mono (by decide)
    obtain ⟨t2, h2⟩ := T.wrv
    refine ⟨_, pss_cons (ps_if (pt_val (pe_call fW hr1 rfl T.gWrong kW bW .nil pass0 (pa_cons (pv 1) (pa_cons (pv 2) pa_nil))))
        (pss_one (ps_ret (pe_call fR hr1 rfl T.gRef kR bR .nil pass0 (pa_cons (pe_ci rfl h2) pa_nil)))) pss_nil)
      (pss_cons (ps_set (i := 3) scBetw.nd rfl (Or.inl rfl) (pe_call fC hr rfl T.gCut kC bC .nil pass0 (pa_cons (pe_fld (pv 0) rfl) (pa_cons (pv 1) (pa_cons (pv 2) pa_nil)))))
      (pss_one (ps_ret (pe_lst (pa_cons (pe_call fE hr1 rfl T.gEdge kE bE .nil pass0 (pa_cons (pe_fld (pv 0) rfl) (pa_cons (pv 3) pa_nil))) (pa_cons (pv 3) pa_nil)))))), ?_⟩
    refine ⟨_, rfl, _, rfl, a, b, rfl, _, rfl, ?_⟩
    cases hok : okPair a b with
    | false =>
      refine iteT ?_
      exact ⟨22, rfl, fun r hr2 => EndsM.same k N (ExtN.refl H) hT hr2 rfl (by rw [act_betw_bad hok]; rfl)⟩
    | true =>
      refine iteF ?_
      obtain ⟨ha8, hb8, hab⟩ := ok_pair.mp hok
      refine ⟨_, rfl, p, _, dx, _, _, rfl, hp, T.cNet, T.aLines, nF_lines d, _, rfl, _, rfl, d, D, a, b, rfl, ha8, hb8, hab, N.ln, N.good, hT, fun H1 eN T1 => ?_⟩
      have N1 := N.ext eN
      obtain ⟨dx1, hp1⟩ := N1.ins
      refine ⟨_, rfl, p, _, dx1, _, _, rfl, hp1, T.cNet, T.aLines, nF_lines d, _, rfl, d, D, _, rfl, N1.ln, fun H2 sm => ?_⟩
      refine ⟨_, rfl, by show 2 ≤ sizeLine; decide, fun r hr2 => ?_⟩
      exact EndsM.same k N (eN.trans (extN_of sm)) (T1.ext sm) hr2 rfl (by rw [act_betw hok, nt_edge N.good]; rfl)
/-! ### edge -/
theorem scSide : FnScope ["self", "side"] ["self", "side"] (defScope (sNet 8)) := ⟨rfl, rfl, rfl, by decide +kernel, rfl, by decide +kernel, by decide +kernel⟩
theorem act_edge_bad {n : Km361.Net} {s : Nat} (h : 256 ≤ s) : (act n (.edge s)).2 = only (-22) := by
  show (if 256 ≤ s then only (-22) else _) = _
  rw [if_pos h]
theorem act_edge {n : Km361.Net} {s : Nat} (h : ¬ 256 ≤ s) : (act n (.edge s)).2 = only ((n.edge s : Nat) : Int) := by
  show (if 256 ≤ s then only (-22) else only ((n.edge s : Nat) : Int)) = _
  rw [if_neg h]
theorem ok_side {f : Addr} {fd : FuncData} (F : Fun K "edge" "Network.edge" (sNet 8) f fd) (T : Tx K mg) (GR : Cal P w K mg base 1 (He.ga K "refused") ["reason"] spRefused)
    (GE : Cal P w K mg base 1 (He.ga K "edge_of") ["lines", "side"] spEdge) : FnOk P w K mg base CX0 2 f fd ["self", "side"] (spM1 K .edge) := by
  obtain ⟨fdR, fR, bR, kR⟩ := GR
  obtain ⟨fdE, fE, bE, kE⟩ := GE
  refine F.ok scSide (fun vs H Q E h => ?_) (fun cdv A outer s H vs Q E hr h => ?_)
  · obtain ⟨p, d, D, a, rfl, _⟩ := h
    rfl
  · obtain ⟨p, d, D, a, rfl, N, hT, k⟩ := h
    obtain ⟨dx, hp⟩ := N.ins
    obtain ⟨t1, h1⟩ := T.sides
    obtain ⟨t2, h2⟩ := T.wrv
    refine ⟨_, pss_cons (ps_if (pt_cmpR op_ge (pv 1) (pe_ci rfl h1) (nomark _)) (pss_one (ps_ret (pe_call fR hr rfl T.gRef kR bR .nil pass0 (pa_cons (pe_ci rfl h2) pa_nil)))) pss_nil)
      (pss_one (ps_ret (pe_lst (pa_cons (pe_call fE hr rfl T.gEdge kE bE .nil pass0 (pa_cons (pe_fld (pv 0) rfl) (pa_cons (pv 1) pa_nil))) pa_nil)))), ?_⟩
    refine ⟨_, rfl, _, _, rfl, rfl, _, rfl, ?_⟩
    by_cases ha : 256 ≤ a
    · rw [decide_eq_true (show (256 : Int) ≤ (a : Int) by omega)]
      refine iteT ?_
      exact ⟨22, rfl, fun r hr2 => EndsM.same k N (ExtN.refl H) hT hr2 rfl (by rw [act_edge_bad ha]; rfl)⟩
    · rw [decide_eq_false (show ¬ (256 : Int) ≤ (a : Int) by omega)]
      refine iteF ?_
      refine ⟨_, rfl, p, _, dx, _, _, rfl, hp, T.cNet, T.aLines, nF_lines d, _, rfl, d, D, a, rfl, N.ln, fun H2 sm => ⟨by show 1 ≤ sizeLine; decide, fun r hr2 => ?_⟩⟩
      exact EndsM.same k N (extN_of sm) (hT.ext sm) hr2 rfl (by rw [act_edge ha, nt_edge N.good]; rfl)
/-! ### weakest -/
theorem scWk : FnScope ["self", "side"] ["self"] (defScope (sNet 9)) := ⟨rfl, rfl, rfl, by decide +kernel, rfl, by decide +kernel, by decide +kernel⟩
theorem ok_wk {f : Addr} {fd : FuncData} (F : Fun K "weakest" "Network.weakest" (sNet 9) f fd) (T : Tx K mg) (GE : Cal P w K mg base 1 (He.ga K "edge_of") ["lines", "side"] spEdge) (GK : Cal P w K mg base 5 (He.ga K "weakest_side") ["lines"] (spWeak K)) :
    FnOk P w K mg base CX0 6 f fd ["self"] (spM0 K .weakest) := by
  obtain ⟨fdE, fE, bE, kE⟩ := GE
  obtain ⟨fdK, fK, bK, kK⟩ := GK
  refine F.ok scWk (fun vs H Q E h => ?_) (fun cdv A outer s H vs Q E hr h => ?_)
  · obtain ⟨p, d, D, rfl, _⟩ := h
    rfl
  · obtain ⟨p, d, D, rfl, N, hT, k⟩ := h
    obtain ⟨dx, hp⟩ := N.ins
    have hr1 : Room 1 _ := hr.mono (by decide)
    refine ⟨_, pss_cons (ps_set (i := 1) scWk.nd rfl (Or.inl rfl) (pe_call fK hr rfl T.gWeak kK bK .nil pass0 (pa_cons (pe_fld (pv 0) rfl) pa_nil)))
      (pss_one (ps_ret (pe_lst (pa_cons (pe_call fE hr1 rfl T.gEdge kE bE .nil pass0 (pa_cons (pe_fld (pv 0) rfl) (pa_cons (pv 1) pa_nil))) (pa_cons (pv 1) pa_nil))))), ?_⟩
    refine ⟨_, rfl, p, _, dx, _, _, rfl, hp, T.cNet, T.aLines, nF_lines d, d, D, rfl, N.ln, N.good, hT, fun H1 eN T1 => ?_⟩
    have N1 := N.ext eN
    obtain ⟨dx1, hp1⟩ := N1.ins
    refine ⟨_, rfl, p, _, dx1, _, _, rfl, hp1, T.cNet, T.aLines, nF_lines d, _, rfl, d, D, _, rfl, N1.ln, fun H2 sm => ?_⟩
    refine ⟨_, rfl, by show 2 ≤ sizeLine; decide, fun r hr2 => ?_⟩
    refine EndsM.same k N (eN.trans (extN_of sm)) (T1.ext sm) hr2 rfl ?_
    show ansV ⟨(((nt D).edge (nt D).weakest : Nat) : Int), [(nt D).weakest]⟩ = _
    rw [nt_edge N.good]
    rfl
/-! ### whole_tree, told_between -/
theorem tw_tree {D : Dn} (g : Good D) : TW (nt D).tree := by
  rw [← treeK_all]
  exact tw_treeK (fun x => by rw [nt_edge g]; exact edgeD_le g x) 7 (by decide)
/-- a tree has been made at x -/
theorem made_ext {H H2 : Hp} {x dx C : Addr} (nx : H x = none) (ndx : H dx = none) (fr : ∀ b o, (upd (upd H dx (.own x)) x (.ins C dx [])) b = some o → (∀ ps, o ≠ .tbl ps) → b ≠ x → H2 b = some o) : ExtN H H2 := fun b o e n => by
  refine fr b o ?_ n (ne_of_none e nx)
  rw [upd_ne (ne_of_none e nx), upd_ne (ne_of_none e ndx)]
  exact e
theorem made_same {H : Hp} {x dx C : Addr} (nx : H x = none) (ndx : H dx = none) : Same H (upd (upd H dx (.own x)) x (.ins C dx [])) := fun b o e => by
  rw [upd_ne (ne_of_none e nx), upd_ne (ne_of_none e ndx)]
  exact e
theorem scWhole : FnScope ["self", "tree"] ["self"] (defScope (sNet 6)) := ⟨rfl, rfl, rfl, by decide +kernel, rfl, by decide +kernel, by decide +kernel⟩
theorem ans_tree (n : Km361.Net) : ansV (act n .tree).2 = [V.int 0] ++ lV n.tree.above ++ lV n.tree.much := by
  show (0 :: Km361Neutral.nums (n.tree.above ++ n.tree.much)).map V.int = _
  unfold Km361Neutral.nums lV
  rw [List.map_cons, List.map_map, List.map_append]
  rfl
theorem ok_whole {f fi : Addr} {fd : FuncData} (F : Fun K "whole_tree" "Network.whole_tree" (sNet 6) f fd) (T : Tx K mg) (M : Mk K (He.ga K "Tree") fi) (GI : Cal P w K mg base 7 fi ["self", "lines"] (spTInit K)) : FnOk P w K mg base CX0 9 f fd ["self"] (spM0 K .tree) := by
  obtain ⟨fdI, fI, bI, kI⟩ := GI
  refine F.ok scWhole (fun vs H Q E h => ?_) (fun cdv A outer s H vs Q E hr h => ?_)
  · obtain ⟨p, d, D, rfl, _⟩ := h
    rfl
  · obtain ⟨p, d, D, rfl, N, hT, k⟩ := h
    obtain ⟨dx, hp⟩ := N.ins
    refine ⟨_, pss_cons (ps_set (i := 1) scWhole.nd rfl (Or.inl rfl) (pe_make M fI hr rfl T.gTree bI .nil pass0 (pa_cons (pe_fld (pv 0) rfl) pa_nil)))
      (pss_one (ps_ret (pe_op op_cat (pe_op op_cat (pe_lst (pa_cons pe_int pa_nil)) (pe_fld (pv 1) rfl)) (pe_fld (pv 1) rfl)))), ?_⟩
    refine ⟨_, rfl, p, _, dx, _, _, rfl, hp, T.cNet, T.aLines, nF_lines d, ?_⟩
    intro x dy nx ndx nex
    have sm := made_same (C := He.ga K "Tree") nx ndx
    refine ⟨x, dy, d, D, rfl, upd_same, N.ln.ext (extN_of sm), N.good, hT.ext sm, fun H2 al wl TA fr T2 => ⟨rfl, ?_⟩⟩
    have e2 : ExtN H H2 := made_ext nx ndx fr
    obtain ⟨⟨dz, hx⟩, hab, hwe⟩ := id TA
    have W := tw_tree N.good
    refine ⟨by show 1 ≤ sizeLine; decide, fun z nz => ?_⟩
    have s3 : Same H2 (upd H2 z (.lst [V.int 0])) := same_upd (Same.refl H2) nz
    refine ⟨_, rfl, x, _, dz, _, _, rfl, s3 _ _ hx, T.cTree, T.aAbove, tF_above _ _, z, al, _, _, rfl, rfl, upd_same, s3 _ _ hab, ?_, fun z2 nz2 => ?_⟩
    · rw [lV_len, W.la]
      show 1 + 8 ≤ sizeLine
      decide
    have s4 : Same H2 (upd (upd H2 z (.lst [V.int 0])) z2 (.lst ([V.int 0] ++ lV (nt D).tree.above))) := s3.trans (same_upd (Same.refl _) nz2)
    refine ⟨_, rfl, x, _, dz, _, _, rfl, s4 _ _ hx, T.cTree, T.aWeights, tF_weights _ _, z2, wl, _, _, rfl, rfl, upd_same, s4 _ _ hwe, ?_, fun r hr2 => ?_⟩
    · rw [List.length_append, lV_len, lV_len, W.la, W.lm]
      show 1 + 8 + 8 ≤ sizeLine
      decide
    exact EndsM.same k N (e2.trans (extN_of s4)) (T2.ext s4) hr2 rfl (ans_tree _)
theorem scTold : FnScope ["self", "a", "b"] ["self", "a", "b"] (defScope (sNet 7)) := ⟨rfl, rfl, rfl, by decide +kernel, rfl, by decide +kernel, by decide +kernel⟩
theorem act_told_bad {n : Km361.Net} {a b : Nat} (h : okPair a b = false) : (act n (.told a b)).2 = only (-22) := by
  show (if okPair a b = false then only (-22) else _) = _
  rw [if_pos h]
theorem act_told {n : Km361.Net} {a b : Nat} (h : okPair a b = true) : (act n (.told a b)).2 = only ((n.tree.least a b : Nat) : Int) := by
  show (if okPair a b = false then only (-22) else only ((n.tree.least a b : Nat) : Int)) = _
  rw [if_neg (by rw [h]; simp)]
theorem ok_told {f fi fs : Addr} {fd : FuncData} (F : Fun K "told_between" "Network.told_between" (sNet 7) f fd) (T : Tx K mg) (M : Mk K (He.ga K "Tree") fi) (GI : Cal P w K mg base 7 fi ["self", "lines"] (spTInit K)) (mS : Meth K (He.ga K "Tree") "least_step" fs)
    (GS : Cal P w K mg base 1 fs ["self", "a", "b"] (spStep K)) (GW : Cal P w K mg base 1 (He.ga K "wrong_pair") ["a", "b"] spWrong) (GR : Cal P w K mg base 1 (He.ga K "refused") ["reason"] spRefused) : FnOk P w K mg base CX0 9 f fd ["self", "a", "b"] (spM2 K .told) := by
  obtain ⟨fdI, fI, bI, kI⟩ := GI
  obtain ⟨fdS, fS, bS, kS⟩ := GS
  obtain ⟨fdW, fW, bW, kW⟩ := GW
  obtain ⟨fdR, fR, bR, kR⟩ := GR
  refine F.ok scTold (fun vs H Q E h => ?_) (fun cdv A outer s H vs Q E hr h => ?_)
  · obtain ⟨p, d, D, a, b, rfl, _⟩ := h
    rfl
  · obtain ⟨p, d, D, a, b, rfl, N, hT, k⟩ := h
    obtain ⟨dx, hp⟩ := N.ins
    have hr1 : Room 1 _ := hr.mono (by decide)
    obtain ⟨t2, h2⟩ := T.wrv
    refine ⟨_, pss_cons (ps_if (pt_val (pe_call fW hr1 rfl T.gWrong kW bW .nil pass0 (pa_cons (pv 1) (pa_cons (pv 2) pa_nil))))
        (pss_one (ps_ret (pe_call fR hr1 rfl T.gRef kR bR .nil pass0 (pa_cons (pe_ci rfl h2) pa_nil)))) pss_nil)
      (pss_one (ps_ret (pe_lst (pa_cons (pe_meth (pe_make M fI hr rfl T.gTree bI .nil pass0 (pa_cons (pe_fld (pv 0) rfl) pa_nil)) T.cTree mS fS hr1 bS .nil pass0 (pa_cons (pv 1) (pa_cons (pv 2) pa_nil))) pa_nil)))), ?_⟩
    refine ⟨_, rfl, _, rfl, a, b, rfl, _, rfl, ?_⟩
    cases hok : okPair a b with
    | false =>
      refine iteT ?_
      exact ⟨22, rfl, fun r hr2 => EndsM.same k N (ExtN.refl H) hT hr2 rfl (by rw [act_told_bad hok]; rfl)⟩
    | true =>
      refine iteF ?_
      obtain ⟨ha8, hb8, hab⟩ := ok_pair.mp hok
      refine ⟨_, rfl, p, _, dx, _, _, rfl, hp, T.cNet, T.aLines, nF_lines d, ?_⟩
      intro x dy nx ndx nex
      have sm := made_same (C := He.ga K "Tree") nx ndx
      refine ⟨x, dy, d, D, rfl, upd_same, N.ln.ext (extN_of sm), N.good, hT.ext sm, fun H2 al wl TA fr T2 => ⟨rfl, ?_⟩⟩
      have e2 : ExtN H H2 := made_ext nx ndx fr
      obtain ⟨⟨dz, hx⟩, hab2, hwe⟩ := id TA
      have W := tw_tree N.good
      refine ⟨x, dz, _, rfl, hx, tF_meth _ _ (by decide +kernel) (by decide +kernel), _, rfl, _, rfl, x, al, wl, _, a, b, rfl, TA, W, ha8, hb8, hab, fun H3 s3 => ⟨by show 1 ≤ sizeLine; decide, fun r hr2 => ?_⟩⟩
      exact EndsM.same k N (e2.trans (extN_of s3)) (T2.ext s3) hr2 rfl (by rw [act_told hok]; rfl)
end
end Mk
set_option Elab.async false
set_option linter.all false
set_option maxRecDepth 100000
set_option maxHeartbeats 2000000
namespace Mk
open PySem PySem.Spec PyProof.Rows L2 LamX NdefX
open Km361 (at_ act okPair only)
abbrev nm (K : PySem.W.Frag) (m : Str) : Addr := He.ma K (He.ga K "Network") m
/-- the nine methods that are called -/
structure Nine (P : Program) (w : World) (K : PySem.W.Frag) (mg : Str → Option Value) (base : Heap) : Prop where
  m0 : Meth K (He.ga K "Network") "start_anew" (nm K "start_anew")
  g0 : Cal P w K mg base 2 (nm K "start_anew") ["self"] (spM0 K .start)
  m1 : Meth K (He.ga K "Network") "add_line" (nm K "add_line")
  g1 : Cal P w K mg base 2 (nm K "add_line") ["self", "a", "b", "most"] (spM3 K .line)
  m2 : Meth K (He.ga K "Network") "drop_line" (nm K "drop_line")
  g2 : Cal P w K mg base 2 (nm K "drop_line") ["self", "line"] (spM1 K .drop)
  m3 : Meth K (He.ga K "Network") "widen_line" (nm K "widen_line")
  g3 : Cal P w K mg base 2 (nm K "widen_line") ["self", "line", "most"] (spM2 K .wide)
  m4 : Meth K (He.ga K "Network") "between" (nm K "between")
  g4 : Cal P w K mg base 6 (nm K "between") ["self", "a", "b"] (spM2 K .between)
  m5 : Meth K (He.ga K "Network") "whole_tree" (nm K "whole_tree")
  g5 : Cal P w K mg base 9 (nm K "whole_tree") ["self"] (spM0 K .tree)
  m6 : Meth K (He.ga K "Network") "told_between" (nm K "told_between")
  g6 : Cal P w K mg base 9 (nm K "told_between") ["self", "a", "b"] (spM2 K .told)
  m7 : Meth K (He.ga K "Network") "edge" (nm K "edge")
  g7 : Cal P w K mg base 2 (nm K "edge") ["self", "side"] (spM1 K .edge)
  m8 : Meth K (He.ga K "Network") "weakest" (nm K "weakest")
  g8 : Cal P w K mg base 6 (nm K "weakest") ["self"] (spM0 K .weakest)
section
variable {P : Program} {w : World} {K : PySem.W.Frag} {mg : Str → Option Value} {base : Heap}
/-! ### answer_of -/
def spAnsOf (K : PySem.W.Frag) : Sp := fun vs H Q _ => ∃ (p d g : Addr) (D : Dn) (x : Km361.Call), vs = [.ref p, vN (numOf x), .ref g] ∧ NetAt K H p d D ∧ Tabs (tabT K) H ∧ SqL K H g (lV (argsOf x)) ∧ EndsM K H p D x Q
theorem scAnsOf : FnScope ["network", "number", "given"] ["network", "number", "given"] (defScope (top 30)) := ⟨rfl, rfl, rfl, by decide +kernel, rfl, by decide +kernel, by decide +kernel⟩
theorem num_yes {A B : Prop} {n k : Nat} (h : n = k) (a : A) : if decide (vN n = V.int (k : Int)) = true then A else B := by
  have e : decide (vN n = V.int (k : Int)) = true := decide_eq_true (vN_inj.mpr h)
  rw [e]
  exact iteT a
theorem num_no {A B : Prop} {n k : Nat} (h : n ≠ k) (b : B) : if decide (vN n = V.int (k : Int)) = true then A else B := by
  have e : decide (vN n = V.int (k : Int)) = false := decide_eq_false (fun z => h (vN_inj.mp z))
  rw [e]
  exact iteF b
theorem ok_ansof {f : Addr} {fd : FuncData} (F : Fun K "answer_of" "answer_of" (top 30) f fd) (T : Tx K mg) (M : Nine P w K mg base) : FnOk P w K mg base CX0 10 f fd ["network", "number", "given"] (spAnsOf K) := by
  obtain ⟨fd0, f0, b0, k0⟩ := M.g0
  obtain ⟨fd1, f1, b1, k1⟩ := M.g1
  obtain ⟨fd2, f2, b2, k2⟩ := M.g2
  obtain ⟨fd3, f3, b3, k3⟩ := M.g3
  obtain ⟨fd4, f4, b4, k4⟩ := M.g4
  obtain ⟨fd5, f5, b5, k5⟩ := M.g5
  obtain ⟨fd6, f6, b6, k6⟩ := M.g6
  obtain ⟨fd7, f7, b7, k7⟩ := M.g7
  obtain ⟨fd8, f8, b8, k8⟩ := M.g8
  refine F.ok scAnsOf (fun vs H Q E h => ?_) (fun cdv A outer s H vs Q E hr h => ?_)
  · obtain ⟨p, d, g, D, x, rfl, _⟩ := h
    rfl
  · obtain ⟨p, d, g, D, x, rfl, N, hT, hS, k⟩ := h
    obtain ⟨dx, hp⟩ := N.ins
    have hr2 : Room 2 _ := hr.mono (by decide)
    have hr6 : Room 6 _ := hr.mono (by decide)
    obtain ⟨u0, c0⟩ := T.t0
    obtain ⟨u1, c1⟩ := T.t1
    obtain ⟨u2, c2⟩ := T.t2
    obtain ⟨u3, c3⟩ := T.t3
    obtain ⟨u4, c4⟩ := T.t4
    obtain ⟨u5, c5⟩ := T.t5
    obtain ⟨u6, c6⟩ := T.t6
    obtain ⟨u7, c7⟩ := T.t7
    refine ⟨_, pss_cons (ps_if (pt_cmpR op_eq (pv 1) (pe_ci rfl c0) (nomark _)) (pss_one (ps_ret (pe_meth0 (pv 0) T.cNet M.m0 f0 hr2 b0 .nil pass0))) pss_nil)
      (pss_cons (ps_if (pt_cmpR op_eq (pv 1) (pe_ci rfl c1) (nomark _)) (pss_one (ps_ret (pe_meth (pv 0) T.cNet M.m1 f1 hr2 b1 .nil pass0 (pa_cons (pe_ix ix_list (pv 2) pe_int (fun _ _ => rfl)) (pa_cons (pe_ix ix_list (pv 2) pe_int (fun _ _ => rfl)) (pa_cons (pe_ix ix_list (pv 2) pe_int (fun _ _ => rfl)) pa_nil)))))) pss_nil)
      (pss_cons (ps_if (pt_cmpR op_eq (pv 1) (pe_ci rfl c2) (nomark _)) (pss_one (ps_ret (pe_meth (pv 0) T.cNet M.m2 f2 hr2 b2 .nil pass0 (pa_cons (pe_ix ix_list (pv 2) pe_int (fun _ _ => rfl)) pa_nil)))) pss_nil)
      (pss_cons (ps_if (pt_cmpR op_eq (pv 1) (pe_ci rfl c3) (nomark _)) (pss_one (ps_ret (pe_meth (pv 0) T.cNet M.m3 f3 hr2 b3 .nil pass0 (pa_cons (pe_ix ix_list (pv 2) pe_int (fun _ _ => rfl)) (pa_cons (pe_ix ix_list (pv 2) pe_int (fun _ _ => rfl)) pa_nil))))) pss_nil)
      (pss_cons (ps_if (pt_cmpR op_eq (pv 1) (pe_ci rfl c4) (nomark _)) (pss_one (ps_ret (pe_meth (pv 0) T.cNet M.m4 f4 hr6 b4 .nil pass0 (pa_cons (pe_ix ix_list (pv 2) pe_int (fun _ _ => rfl)) (pa_cons (pe_ix ix_list (pv 2) pe_int (fun _ _ => rfl)) pa_nil))))) pss_nil)
      (pss_cons (ps_if (pt_cmpR op_eq (pv 1) (pe_ci rfl c5) (nomark _)) (pss_one (ps_ret (pe_meth0 (pv 0) T.cNet M.m5 f5 hr b5 .nil pass0))) pss_nil)
      (pss_cons (ps_if (pt_cmpR op_eq (pv 1) (pe_ci rfl c6) (nomark _)) (pss_one (ps_ret (pe_meth (pv 0) T.cNet M.m6 f6 hr b6 .nil pass0 (pa_cons (pe_ix ix_list (pv 2) pe_int (fun _ _ => rfl)) (pa_cons (pe_ix ix_list (pv 2) pe_int (fun _ _ => rfl)) pa_nil))))) pss_nil)
      (pss_cons (ps_if (pt_cmpR op_eq (pv 1) (pe_ci rfl c7) (nomark _)) (pss_one (ps_ret (pe_meth (pv 0) T.cNet M.m7 f7 hr2 b7 .nil pass0 (pa_cons (pe_ix ix_list (pv 2) pe_int (fun _ _ => rfl)) pa_nil)))) pss_nil)
      (pss_one (ps_ret (pe_meth0 (pv 0) T.cNet M.m8 f8 hr6 b8 .nil pass0)))))))))), ?_⟩
    cases x with
    | start =>
      refine ⟨_, rfl, rfl, _, rfl, num_yes (n := 0) (k := 0) rfl ?_⟩
      exact ⟨_, rfl, p, dx, _, rfl, hp, nF_meth _ (by decide +kernel), p, d, D, rfl, N, hT, k⟩
    | line a b c =>
      refine ⟨_, rfl, rfl, _, rfl, num_no (n := 1) (k := 0) (by decide) ?_⟩
      refine ⟨_, rfl, rfl, _, rfl, num_yes (n := 1) (k := 1) rfl ?_⟩
      exact ⟨_, rfl, p, dx, _, rfl, hp, nF_meth _ (by decide +kernel), _, rfl, g, _, _, vN a, rfl, rfl, hS, rfl, _, rfl, g, _, _, vN b, rfl, rfl, hS, rfl, _, rfl, g, _, _, vN c, rfl, rfl, hS, rfl, p, d, D, a, b, c, rfl, N, hT, k⟩
    | drop a =>
      refine ⟨_, rfl, rfl, _, rfl, num_no (n := 2) (k := 0) (by decide) ?_⟩
      refine ⟨_, rfl, rfl, _, rfl, num_no (n := 2) (k := 1) (by decide) ?_⟩
      refine ⟨_, rfl, rfl, _, rfl, num_yes (n := 2) (k := 2) rfl ?_⟩
      exact ⟨_, rfl, p, dx, _, rfl, hp, nF_meth _ (by decide +kernel), _, rfl, g, _, _, vN a, rfl, rfl, hS, rfl, p, d, D, a, rfl, N, hT, k⟩
    | wide a b =>
      refine ⟨_, rfl, rfl, _, rfl, num_no (n := 3) (k := 0) (by decide) ?_⟩
      refine ⟨_, rfl, rfl, _, rfl, num_no (n := 3) (k := 1) (by decide) ?_⟩
      refine ⟨_, rfl, rfl, _, rfl, num_no (n := 3) (k := 2) (by decide) ?_⟩
      refine ⟨_, rfl, rfl, _, rfl, num_yes (n := 3) (k := 3) rfl ?_⟩
      exact ⟨_, rfl, p, dx, _, rfl, hp, nF_meth _ (by decide +kernel), _, rfl, g, _, _, vN a, rfl, rfl, hS, rfl, _, rfl, g, _, _, vN b, rfl, rfl, hS, rfl, p, d, D, a, b, rfl, N, hT, k⟩
    | between a b =>
      refine ⟨_, rfl, rfl, _, rfl, num_no (n := 4) (k := 0) (by decide) ?_⟩
      refine ⟨_, rfl, rfl, _, rfl, num_no (n := 4) (k := 1) (by decide) ?_⟩
      refine ⟨_, rfl, rfl, _, rfl, num_no (n := 4) (k := 2) (by decide) ?_⟩
      refine ⟨_, rfl, rfl, _, rfl, num_no (n := 4) (k := 3) (by decide) ?_⟩
      refine ⟨_, rfl, rfl, _, rfl, num_yes (n := 4) (k := 4) rfl ?_⟩
      exact ⟨_, rfl, p, dx, _, rfl, hp, nF_meth _ (by decide +kernel), _, rfl, g, _, _, vN a, rfl, rfl, hS, rfl, _, rfl, g, _, _, vN b, rfl, rfl, hS, rfl, p, d, D, a, b, rfl, N, hT, k⟩
    | tree =>
      refine ⟨_, rfl, rfl, _, rfl, num_no (n := 5) (k := 0) (by decide) ?_⟩
      refine ⟨_, rfl, rfl, _, rfl, num_no (n := 5) (k := 1) (by decide) ?_⟩
      refine ⟨_, rfl, rfl, _, rfl, num_no (n := 5) (k := 2) (by decide) ?_⟩
      refine ⟨_, rfl, rfl, _, rfl, num_no (n := 5) (k := 3) (by decide) ?_⟩
      refine ⟨_, rfl, rfl, _, rfl, num_no (n := 5) (k := 4) (by decide) ?_⟩
      refine ⟨_, rfl, rfl, _, rfl, num_yes (n := 5) (k := 5) rfl ?_⟩
      exact ⟨_, rfl, p, dx, _, rfl, hp, nF_meth _ (by decide +kernel), p, d, D, rfl, N, hT, k⟩
    | told a b =>
      refine ⟨_, rfl, rfl, _, rfl, num_no (n := 6) (k := 0) (by decide) ?_⟩
      refine ⟨_, rfl, rfl, _, rfl, num_no (n := 6) (k := 1) (by decide) ?_⟩
      refine ⟨_, rfl, rfl, _, rfl, num_no (n := 6) (k := 2) (by decide) ?_⟩
      refine ⟨_, rfl, rfl, _, rfl, num_no (n := 6) (k := 3) (by decide) ?_⟩
      refine ⟨_, rfl, rfl, _, rfl, num_no (n := 6) (k := 4) (by decide) ?_⟩
      refine ⟨_, rfl, rfl, _, rfl, num_no (n := 6) (k := 5) (by decide) ?_⟩
      refine ⟨_, rfl, rfl, _, rfl, num_yes (n := 6) (k := 6) rfl ?_⟩
      exact ⟨_, rfl, p, dx, _, rfl, hp, nF_meth _ (by decide +kernel), _, rfl, g, _, _, vN a, rfl, rfl, hS, rfl, _, rfl, g, _, _, vN b, rfl, rfl, hS, rfl, p, d, D, a, b, rfl, N, hT, k⟩
    | edge a =>
      refine ⟨_, rfl, rfl, _, rfl, num_no (n := 7) (k := 0) (by decide) ?_⟩
      refine ⟨_, rfl, rfl, _, rfl, num_no (n := 7) (k := 1) (by decide) ?_⟩
      refine ⟨_, rfl, rfl, _, rfl, num_no (n := 7) (k := 2) (by decide) ?_⟩
      refine ⟨_, rfl, rfl, _, rfl, num_no (n := 7) (k := 3) (by decide) ?_⟩
      refine ⟨_, rfl, rfl, _, rfl, num_no (n := 7) (k := 4) (by decide) ?_⟩
      refine ⟨_, rfl, rfl, _, rfl, num_no (n := 7) (k := 5) (by decide) ?_⟩
      refine ⟨_, rfl, rfl, _, rfl, num_no (n := 7) (k := 6) (by decide) ?_⟩
      refine ⟨_, rfl, rfl, _, rfl, num_yes (n := 7) (k := 7) rfl ?_⟩
      exact ⟨_, rfl, p, dx, _, rfl, hp, nF_meth _ (by decide +kernel), _, rfl, g, _, _, vN a, rfl, rfl, hS, rfl, p, d, D, a, rfl, N, hT, k⟩
    | weakest =>
      refine ⟨_, rfl, rfl, _, rfl, num_no (n := 8) (k := 0) (by decide) ?_⟩
      refine ⟨_, rfl, rfl, _, rfl, num_no (n := 8) (k := 1) (by decide) ?_⟩
      refine ⟨_, rfl, rfl, _, rfl, num_no (n := 8) (k := 2) (by decide) ?_⟩
      refine ⟨_, rfl, rfl, _, rfl, num_no (n := 8) (k := 3) (by decide) ?_⟩
      refine ⟨_, rfl, rfl, _, rfl, num_no (n := 8) (k := 4) (by decide) ?_⟩
      refine ⟨_, rfl, rfl, _, rfl, num_no (n := 8) (k := 5) (by decide) ?_⟩
      refine ⟨_, rfl, rfl, _, rfl, num_no (n := 8) (k := 6) (by decide) ?_⟩
      refine ⟨_, rfl, rfl, _, rfl, num_no (n := 8) (k := 7) (by decide) ?_⟩
      exact ⟨_, rfl, p, dx, _, rfl, hp, nF_meth _ (by decide +kernel), p, d, D, rfl, N, hT, k⟩
end
end Mk
set_option Elab.async false
set_option linter.all false
set_option maxRecDepth 100000
set_option maxHeartbeats 2000000
namespace Mk
open PySem PySem.Spec PyProof.Rows L2 LamX NdefX
open Km361 (at_ act okPair only)
/-! ### the list that is handed in stays as it was -/
theorem Frm.seq {K : PySem.W.Frag} {H H' : Hp} {a : Addr} {xs : List V} (e : Frm H H') (h : SqL K H a xs) : SqL K H' a xs := by
  rcases h with (h | ⟨o, h⟩) | h
  · exact .inl (.inl (e.ls _ _ h))
  · exact .inl (.inr ⟨o, e.fz _ _ _ h⟩)
  · exact .inr h
theorem Frm.upd {H H' : Hp} (e : Frm H H') (q : Addr) (o : HO) : Frm (upd H q o) (upd H' q o) := by
  refine ⟨fun b xs h => ?_, fun b o2 u h => ?_⟩
  · by_cases hb : b = q
    · rw [hb, upd_same] at h ⊢
      exact h
    · rw [upd_ne hb] at h ⊢
      exact e.ls b xs h
  · by_cases hb : b = q
    · rw [hb, upd_same] at h ⊢
      exact h
    · rw [upd_ne hb] at h ⊢
      exact e.fz b o2 u h
/-- the list at a is read whatever the list at q holds -/
def Apart (K : PySem.W.Frag) (H : Hp) (a q : Addr) (xs : List V) : Prop := ∀ ys, SqL K (upd H q (.lst ys)) a xs
theorem Apart.at_ {K : PySem.W.Frag} {H : Hp} {a q : Addr} {xs ys : List V} (h : Apart K H a q xs) (hq : H q = some (.lst ys)) : SqL K H a xs := by
  have z := h ys
  rw [upd_self hq] at z
  exact z
theorem Apart.frm {K : PySem.W.Frag} {H H' : Hp} {a q : Addr} {xs : List V} (h : Apart K H a q xs) (e : Frm H H') : Apart K H' a q xs := fun ys => (e.upd q _).seq (h ys)
theorem Apart.put {K : PySem.W.Frag} {H : Hp} {a q : Addr} {xs zs : List V} (h : Apart K H a q xs) : Apart K (upd H q (.lst zs)) a q xs := fun ys => by
  rw [upd_upd]
  exact h ys
theorem apart_new {K : PySem.W.Frag} {H : Hp} {a q : Addr} {xs : List V} (h : SqL K H a xs) (hq : H q = none) : Apart K H a q xs := fun ys => (same_upd (Same.refl H) hq).seq h
/-! ### the calls -/
def iV (l : List Int) : List V := l.map V.int
theorem iV_len (l : List Int) : (iV l).length = l.length := List.length_map ..
theorem iV_app (a b : List Int) : iV (a ++ b) = iV a ++ iV b := List.map_append ..
theorem row_at (pre suf : List Int) (z : Int) : (iV (pre ++ z :: suf))[pre.length]? = some (V.int z) := by
  unfold iV
  rw [List.getElem?_map, List.getElem?_append_right (Nat.le_refl _), Nat.sub_self]
  rfl
theorem row_cut (pre args suf : List Int) (z : Int) : cutV (iV (pre ++ z :: (args ++ suf))) (some ((pre.length + 1 : Nat) : Int)) (some ((pre.length + 1 + args.length : Nat) : Int)) = iV args := by
  unfold cutV
  rw [HT.sIx_nat, HT.sIx_nat, iV_len]
  have hl : (pre ++ z :: (args ++ suf)).length = pre.length + 1 + args.length + suf.length := by
    rw [List.length_append, List.length_cons, List.length_append]
    omega
  rw [hl, Nat.min_eq_left (by omega), Nat.min_eq_left (by omega)]
  unfold iV
  rw [← List.map_drop, ← List.map_take]
  congr 1
  have e : pre ++ z :: (args ++ suf) = (pre ++ [z]) ++ (args ++ suf) := by simp
  have e1 : pre.length + 1 = (pre ++ [z]).length := by simp
  rw [e, e1, List.drop_left]
  have e2 : (pre ++ [z]).length + args.length - (pre ++ [z]).length = args.length := by omega
  rw [e2, List.take_left]
def leftA (L : Nat) (σ : L2.St) : Nat := match σ with
  | [_, _, _, some (.int i), _, _, _] => L - i.toNat
  | _ => 0
section
variable {P : Program} {w : World} {K : PySem.W.Frag} {mg : Str → Option Value} {base : Heap}
/-! ### answers -/
def spAnswers (K : PySem.W.Frag) : Sp := fun vs H Q _ => ∃ (a : Addr) (ns : List Int), vs = [.ref a] ∧ SqL K H a (iV ns) ∧ PyKm361.answers_asked ns = true ∧ Tabs (tabT K) H ∧ ∀ (H' : Hp) (r : Addr), H' r = some (.lst (iV (PyKm361.answers ns))) → Q (.ref r) H'
theorem scAnswers : FnScope ["calls", "network", "told", "at", "number", "behind", "answer"] ["calls"] (defScope (top 31)) := ⟨rfl, rfl, rfl, by decide +kernel, rfl, by decide +kernel, by decide +kernel⟩
theorem ok_answers {f fi : Addr} {fd : FuncData} (F : Fun K "answers" "answers" (top 31) f fd) (T : Tx K mg) (M : Mk K (He.ga K "Network") fi) (GI : Cal P w K mg base 1 fi ["self"] (spNInit K)) (GA : Cal P w K mg base 10 (He.ga K "answer_of") ["network", "number", "given"] (spAnsOf K))
    (hG : ∀ H, SqT K H (He.ga K "GIVEN_COUNTS") (lV counts)) : FnOk P w K mg base CX0 11 f fd ["calls"] (spAnswers K) := by
  obtain ⟨fdI, fI, bI, kI⟩ := GI
  obtain ⟨fdA, fA, bA, kA⟩ := GA
  refine F.ok scAnswers (fun vs H Q E h => ?_) (fun cdv A outer s H vs Q E hr h => ?_)
  · obtain ⟨a, ns, rfl, _⟩ := h
    rfl
  · obtain ⟨a, ns, rfl, hS, hask, hT, k⟩ := h
    have hr2 : Room 2 _ := hr.mono (by decide)
    obtain ⟨all, hall, hlen, hans⟩ := asked_plays hask
    refine ⟨_, pss_cons (ps_set (i := 1) scAnswers.nd rfl (Or.inl rfl) (pe_make0 M fI hr2 rfl T.gNet bI .nil pass0))
      (pss_cons (ps_set (i := 2) scAnswers.nd rfl (Or.inl rfl) (pe_lst pa_nil))
      (pss_cons (ps_set (i := 3) scAnswers.nd rfl (Or.inl rfl) pe_int)
      (pss_cons (ps_while PassesOwn.never (pt_cmpR op_lt (pv 3) (pe_callB call_len_seq (by rfl) T.len PySem.boot_len (pa_cons (pv 0) pa_nil)) (nomark _))
        (pss_cons (ps_set (i := 4) scAnswers.nd rfl (Or.inl rfl) (pe_ix ix_list (pv 0) (pv 3) (fun _ _ => rfl)))
        (pss_cons (ps_set (i := 5) scAnswers.nd rfl (Or.inl rfl) (pe_op op_add (pe_op op_add (pv 3) pe_int) (pe_ix ix_tup (pe_glob rfl T.gGiven (v := .ref _) rfl) (pv 4) (fun _ _ => rfl))))
        (pss_cons (ps_set (i := 6) scAnswers.nd rfl (Or.inl rfl) (pe_call fA hr rfl T.gAns kA bA .nil pass0 (pa_cons (pv 1) (pa_cons (pv 4) (pa_cons (pe_slice sl_list (pv 0) (po_some (pe_op op_add (pv 3) pe_int)) (po_some (pv 5))) pa_nil)))))
        (pss_cons (ps_expr (pe_bm PySem.F.plainAttrs_list PySem.F.slot_list_append PySem.F.type_list_append mt_append (pv 2) (pa_cons (pe_callB call_len_seq (by rfl) T.len PySem.boot_len (pa_cons (pv 6) pa_nil)) pa_nil)))
        (pss_cons (ps_expr (pe_bm PySem.F.plainAttrs_list PySem.F.slot_list_extend PySem.F.type_list_extend mt_extend (pv 2) (pa_cons (pv 6) pa_nil)))
        (pss_one (ps_set (i := 3) scAnswers.nd rfl (Or.inl rfl) (pv 5)))))))))
      (pss_one (ps_ret (pv 2)))))), ?_⟩
    -- network = Network()
    intro x dx nx ndx nex
    have sm := made_same (C := He.ga K "Network") nx ndx
    refine ⟨x, dx, rfl, upd_same, fun H1 d0 N0 fr => ⟨rfl, ?_⟩⟩
    have sm1 : Same H H1 := fun b o e => fr b o (sm b o e) (ne_of_none e nx)
    -- told = []
    refine ⟨Nat.zero_le _, fun q nq => ?_⟩
    have sm2 : Same H1 (upd H1 q (.lst [])) := same_upd (Same.refl H1) nq
    have T1 : Tabs (tabT K) H1 := hT.ext sm1
    refine while_by (fun σ H' => ∃ (pre rest : List Km361.Call) (tl : List Int) (d : Addr) (D : Dn) (v4 v5 v6 : Option V), σ = [some (.ref a), some (.ref x), some (.ref q), some (vN (pre.flatMap rowOf).length), v4, v5, v6] ∧ all = pre ++ rest ∧
        tl ++ PyFlat.told (playN (nt D) rest) = PyKm361.answers ns ∧ tl.length + 18 * rest.length ≤ 18000 ∧ H' q = some (.lst (iV tl)) ∧ NetAt K H' x d D ∧ Tabs (tabT K) H' ∧ Apart K H' a q (iV ns))
      (fun σ _ => leftA ns.length σ) ⟨[], all, [], d0, [], none, none, none, rfl, rfl, by rw [nt_nil, hans]; rfl, by simp; omega, upd_same, N0.ext (extN_of sm2), T1.ext sm2, (apart_new (sm1.seq hS) nq).put⟩ ?_ ?_
    · rintro σ H' ⟨pre, rest, tl, d, D, v4, v5, v6, rfl, hpr, htl, hsz, hq, N, hT', hap⟩
      have hSl := hap.at_ hq
      refine ⟨_, rfl, _, rfl, a, _, rfl, .inl hSl, _, _, rfl, rfl, _, rfl, ?_⟩
      rw [iV_len]
      cases rest with
      | nil =>
        have hl : ns.length = (pre.flatMap rowOf).length := by rw [hall, hpr, List.append_nil]
        rw [decide_eq_false (show ¬ (((pre.flatMap rowOf).length : Nat) : Int) < (ns.length : Int) by omega)]
        refine iteF ?_
        refine ⟨_, rfl, k H' q ?_⟩
        rw [hq, ← htl]
        show _ = some (HO.lst (iV (tl ++ [])))
        rw [List.append_nil]
      | cons c rest =>
        have hns : ns = pre.flatMap rowOf ++ (numOf c : Int) :: (intsOf (argsOf c) ++ rest.flatMap rowOf) := by
          rw [hall, hpr, List.flatMap_append, List.flatMap_cons]
          rfl
        generalize hpl : pre.flatMap rowOf = pl at hns
        have hil : (intsOf (argsOf c)).length = (argsOf c).length := List.length_map ..
        have hnl : ns.length = pl.length + 1 + (argsOf c).length + (rest.flatMap rowOf).length := by
          rw [hns, List.length_append, List.length_cons, List.length_append, hil]
          omega
        rw [decide_eq_true (show ((pl.length : Nat) : Int) < (ns.length : Int) by omega)]
        refine iteT ?_
        -- number = calls[at]
        have hat : (iV ns)[pl.length]? = some (vN (numOf c)) := by
          rw [hns]
          exact row_at _ _ _
        refine ⟨_, rfl, _, rfl, a, _, _, vN (numOf c), rfl, rfl, hSl, atI_nat hat, ?_⟩
        -- behind = at + 1 + GIVEN_COUNTS[number]
        have hct : (lV counts)[numOf c]? = some (vN (argsOf c).length) := by
          unfold lV
          rw [List.getElem?_map, count_of]
          rfl
        refine ⟨_, rfl, _, _, rfl, rfl, _, rfl, _, _, _, vN (argsOf c).length, rfl, rfl, hG H', atI_nat hct, _, _, rfl, rfl, ?_⟩
        -- answer = answer_of(network, number, calls[at + 1:behind])
        refine ⟨_, rfl, _, rfl, _, rfl, _, rfl, _, _, rfl, rfl, _, rfl, _, rfl, _, rfl, a, _, rfl, hSl, fun g ng => ?_⟩
        have hcut : cutV (iV ns) (some ((pl.length : Int) + 1)) (some ((pl.length : Int) + 1 + ((argsOf c).length : Int))) = lV (argsOf c) := by
          have e := row_cut pl (intsOf (argsOf c)) (rest.flatMap rowOf) (numOf c : Int)
          rw [← hns, hil] at e
          have e2 : iV (intsOf (argsOf c)) = lV (argsOf c) := (lV_ints _).symm
          rw [e2] at e
          exact e
        rw [hcut]
        have sg : Same H' (upd H' g (.lst (lV (argsOf c)))) := same_upd (Same.refl H') ng
        refine ⟨x, d, g, D, c, rfl, N.ext (extN_of sg), hT'.ext sg, SqL.of upd_same, fun H2 d2 D2 r N2 hnt hr2' hnl2 fr2 T2 => ?_⟩
        have fr1 : Frm H' H2 := (Frm.of (extN_of sg)).trans fr2
        have hq2 := fr1.ls _ _ hq
        have hrq : r ≠ q := fun z => hnl2 (iV tl) (by rw [z]; exact sg _ _ hq)
        have hal : (ansV (act (nt D) c).2).length ≤ 17 := by
          unfold ansV
          rw [List.length_map]
          exact told_len _ _
        have hsz2 : tl.length + 18 * (rest.length + 1) ≤ 18000 := hsz
        have hs0 : 18000 < sizeLine := by decide
        -- told.append(len(answer)); told.extend(answer)
        refine ⟨_, rfl, .inl ⟨rfl, _, SqL.of hq2⟩, _, rfl, r, _, rfl, .inl (SqL.of hr2'), q, _, _, rfl, rfl, hq2, by rw [iV_len]; omega, ?_⟩
        refine ⟨_, rfl, .inl ⟨rfl, _, SqL.of upd_same⟩, _, rfl, q, r, _, _, rfl, rfl, upd_same, by rw [upd_ne hrq]; exact hr2', by rw [List.length_append, iV_len]; simp only [List.length_cons, List.length_nil]; omega, ?_⟩
        rw [upd_upd]
        -- at = behind
        refine ⟨_, rfl, ?_, ?_⟩
        · have hat2 : ((pre ++ [c]).flatMap rowOf).length = pl.length + 1 + (argsOf c).length := by
            rw [List.flatMap_append, List.length_append, hpl, List.flatMap_cons, List.flatMap_nil, List.append_nil, args_len]
            omega
          have hV : iV tl ++ [V.int ((ansV (act (nt D) c).2).length : Nat)] ++ ansV (act (nt D) c).2 = iV (tl ++ ((Km361Neutral.told (act (nt D) c).2).length : Int) :: Km361Neutral.told (act (nt D) c).2) := by
            rw [iV_app, List.append_assoc]
            unfold ansV iV
            rw [List.length_map]
            rfl
          have sq : ∀ b o, H2 b = some o → b ≠ q → upd H2 q (.lst (iV tl ++ [V.int ((ansV (act (nt D) c).2).length : Nat)] ++ ansV (act (nt D) c).2)) b = some o := fun b o e hb => by
            rw [upd_ne hb]
            exact e
          have nq2 : ∀ b o, H2 b = some o → (∀ xs, o ≠ .lst xs) → b ≠ q := fun b o e hn z => by
            rw [z, hq2] at e
            exact hn _ (Option.some.inj e).symm
          refine ⟨pre ++ [c], rest, tl ++ ((Km361Neutral.told (act (nt D) c).2).length : Int) :: Km361Neutral.told (act (nt D) c).2, d2, D2, some (vN (numOf c)), some (V.int ((pl.length : Int) + 1 + ((argsOf c).length : Int))), some (.ref r), ?_, by rw [hpr]; simp, ?_, ?_, by rw [upd_same, hV], ?_, ?_, (hap.frm fr1).put⟩
          · rw [hat2]
            rfl
          · rw [← htl, List.append_assoc]
            congr 1
            rw [hnt]
            rfl
          · have := told_len (nt D) c
            rw [List.length_append, List.length_cons]
            omega
          · refine ⟨let ⟨dz, h⟩ := N2.ins; ⟨dz, sq _ _ h (nq2 _ _ h fun _ z => nomatch z)⟩, ⟨sq _ _ N2.ln.dict (nq2 _ _ N2.ln.dict fun _ z => nomatch z), fun p hp => sq _ _ (N2.ln.tups p hp) (nq2 _ _ (N2.ln.tups p hp) fun _ z => nomatch z)⟩, N2.good⟩
          · exact tabs_keep T2 fun b o e hc => sq b o e (nq2 b o e hc.1)
        · show ns.length - ((pl.length : Int) + 1 + ((argsOf c).length : Int)).toNat < ns.length - ((pl.length : Nat) : Int).toNat
          omega
    · rintro σ H' Q1 Q2 hq ⟨x1, hx, y, hy, p, ys, e1, e2, i, j, e3, e4, c, hc, q2⟩
      exact ⟨x1, hx, y, hy, p, ys, e1, e2, i, j, e3, e4, c, hc, hq _ _ q2⟩
end
end Mk
set_option Elab.async false
set_option linter.all false
set_option maxRecDepth 100000
set_option maxHeartbeats 2000000
namespace Mk
open PySem PySem.Spec PyProof.Rows L2 LamX NdefX
/-! ### what the top has written -/
theorem fun_of {K : PySem.W.Frag} {x q : Str} {st : Stmt} {f : Addr} {fd : FuncData} {kws : List (Str × V)} (F : FunD K x q (defArgs st) (defBody st) (defScope st) [] kws f fd) : Fun K x q st f fd := by
  obtain ⟨⟨oc, od, dV, kV, doc, pm, an, cdv, ct, osl, e, lk, hc, hd, _⟩, kp⟩ := F
  rcases hd with ⟨_, rfl⟩ | ⟨hn, _⟩
  · exact ⟨⟨oc, od, kV, doc, pm, an, cdv, ct, osl, e, lk, hc⟩, kp⟩
  · exact absurd rfl hn
section
variable {w : World} {K : PySem.W.Frag} {mg : Str → Option Value} {h : Heap}
abbrev Says (w : World) (h : Heap) (K : PySem.W.Frag) : Prop := He.SaysX fas fns [] [lp] exB w h K
theorem tx_of (S : Says w h K) (X : K.In h) (G : h.Ns mainGlobals mg) : Tx K mg where
  gHolds := He.glo_ok X G (S.t.d.fact 0)
  gEdge := He.glo_ok X G (S.t.d.fact 1)
  gLeast := He.glo_ok X G (S.t.d.fact 2)
  gCut := He.glo_ok X G (S.t.d.fact 3)
  gWeak := He.glo_ok X G (S.t.d.fact 4)
  gTree := He.glo_ok X G (S.t.d.fact 5)
  gRef := He.glo_ok X G (S.t.d.fact 6)
  gWrong := He.glo_ok X G (S.t.d.fact 7)
  gFree := He.glo_ok X G (S.t.d.fact 8)
  gNet := He.glo_ok X G (S.t.d.fact 9)
  gAns := He.glo_ok X G (S.t.d.fact 10)
  gGiven := He.glo_ok X G (S.t.d.fact 11)
  min := He.free_ok X G (S.t.d.fact 12)
  list := He.free_ok X G (S.t.d.fact 13)
  range := He.free_ok X G (S.t.d.fact 14)
  len := He.free_ok X G (S.t.d.fact 15)
  places := He.int_ok X G (S.t.d.fact 16)
  sides := He.int_ok X G (S.t.d.fact 17)
  mlines := He.int_ok X G (S.t.d.fact 18)
  mthrough := He.int_ok X G (S.t.d.fact 19)
  nsl := He.int_ok X G (S.t.d.fact 20)
  wrv := He.int_ok X G (S.t.d.fact 21)
  nor := He.int_ok X G (S.t.d.fact 22)
  t0 := He.int_ok X G (S.t.d.fact 23)
  t1 := He.int_ok X G (S.t.d.fact 24)
  t2 := He.int_ok X G (S.t.d.fact 25)
  t3 := He.int_ok X G (S.t.d.fact 26)
  t4 := He.int_ok X G (S.t.d.fact 27)
  t5 := He.int_ok X G (S.t.d.fact 28)
  t6 := He.int_ok X G (S.t.d.fact 29)
  t7 := He.int_ok X G (S.t.d.fact 30)
  cTree := He.cls_ok (S.t.d.fact 31)
  cNet := He.cls_ok (S.t.d.fact 32)
  aAbove := He.noat_ok (S.t.d.fact 33)
  aWeights := He.noat_ok (S.t.d.fact 34)
  aLines := He.noat_ok (S.t.d.fact 35)
theorem funB {i : Nat} {x q : Str} {st : Stmt} {at_ : Str × Option Str} {ps : List Str} (S : Says w h K) (hi : fns[i]? = some (dd at_ x q st))
    (hb : ∀ (kV doc pm : Value) (an : Option Addr) (cdv ct : Value) (us : List Value), us.length = ps.length → bindArgs (PySem.W.fnOf x q (defArgs st) (defBody st) (defScope st) .none kV doc pm an cdv ct) ⟨us, []⟩ = pure (ps.zip us)) : FunB K x q st (He.fAd K at_) ps := by
  obtain ⟨fd, F⟩ := S.t.d.def_ i hi
  have F2 : Fun K x q st (He.fAd K at_) fd := fun_of F
  exact ⟨fd, F2, F2.binds hb⟩
theorem spec_at {fa : Addr} (Y : ∃ K : PySem.W.Frag, K.In h ∧ Says w h K) (G : h.Ns mainGlobals mg) (hmg : mg "answers" = some (.ref fa)) : SpecAt PySem.Challenge.rw_treeofcuts_s01_answers w CX0 11 ["calls"] mg fa h := by
  obtain ⟨K, X, S⟩ := Y
  have T := tx_of S X G
  have hfa : mg "answers" = some (.ref (He.ga K "answers")) := He.glo_ok X G (S.t.d.fact 49)
  rw [hmg] at hfa
  cases hfa
  have B0 : FunB K "holds" "holds" (top 3) (He.ga K "holds") ["side", "place"] := funB (i := 0) S rfl fun _ _ _ _ _ _ us hl => match us, hl with | [_, _], _ => rfl
  have B1 : FunB K "edge_of" "edge_of" (top 4) (He.ga K "edge_of") ["lines", "side"] := funB (i := 1) S rfl fun _ _ _ _ _ _ us hl => match us, hl with | [_, _], _ => rfl
  have B2 : FunB K "least_edged" "least_edged" (top 5) (He.ga K "least_edged") ["lines", "sides"] := funB (i := 2) S rfl fun _ _ _ _ _ _ us hl => match us, hl with | [_, _], _ => rfl
  have B3 : FunB K "cut_of" "cut_of" (top 6) (He.ga K "cut_of") ["lines", "a", "b"] := funB (i := 3) S rfl fun _ _ _ _ _ _ us hl => match us, hl with | [_, _, _], _ => rfl
  have B4 : FunB K "weakest_side" "weakest_side" (top 7) (He.ga K "weakest_side") ["lines"] := funB (i := 4) S rfl fun _ _ _ _ _ _ us hl => match us, hl with | [_], _ => rfl
  have B5 : FunB K "__init__" "Tree.__init__" sTInit (He.ma K (He.ga K "Tree") "__init__") ["self", "lines"] := funB (i := 5) S rfl fun _ _ _ _ _ _ us hl => match us, hl with | [_, _], _ => rfl
  have B6 : FunB K "part_from_above" "Tree.part_from_above" sPart (He.ma K (He.ga K "Tree") "part_from_above") ["self", "lines", "place"] := funB (i := 6) S rfl fun _ _ _ _ _ _ us hl => match us, hl with | [_, _, _], _ => rfl
  have B7 : FunB K "least_step" "Tree.least_step" sStep (He.ma K (He.ga K "Tree") "least_step") ["self", "a", "b"] := funB (i := 7) S rfl fun _ _ _ _ _ _ us hl => match us, hl with | [_, _, _], _ => rfl
  have B8 : FunB K "refused" "refused" (top 16) (He.ga K "refused") ["reason"] := funB (i := 8) S rfl fun _ _ _ _ _ _ us hl => match us, hl with | [_], _ => rfl
  have B9 : FunB K "wrong_pair" "wrong_pair" (top 17) (He.ga K "wrong_pair") ["a", "b"] := funB (i := 9) S rfl fun _ _ _ _ _ _ us hl => match us, hl with | [_, _], _ => rfl
  have B10 : FunB K "least_free" "least_free" (top 18) (He.ga K "least_free") ["lines"] := funB (i := 10) S rfl fun _ _ _ _ _ _ us hl => match us, hl with | [_], _ => rfl
  have B11 : FunB K "__init__" "Network.__init__" (sNet 0) (He.ma K (He.ga K "Network") "__init__") ["self"] := funB (i := 11) S rfl fun _ _ _ _ _ _ us hl => match us, hl with | [_], _ => rfl
  have B12 : FunB K "start_anew" "Network.start_anew" (sNet 1) (nm K "start_anew") ["self"] := funB (i := 12) S rfl fun _ _ _ _ _ _ us hl => match us, hl with | [_], _ => rfl
  have B13 : FunB K "add_line" "Network.add_line" (sNet 2) (nm K "add_line") ["self", "a", "b", "most"] := funB (i := 13) S rfl fun _ _ _ _ _ _ us hl => match us, hl with | [_, _, _, _], _ => rfl
  have B14 : FunB K "drop_line" "Network.drop_line" (sNet 3) (nm K "drop_line") ["self", "line"] := funB (i := 14) S rfl fun _ _ _ _ _ _ us hl => match us, hl with | [_, _], _ => rfl
  have B15 : FunB K "widen_line" "Network.widen_line" (sNet 4) (nm K "widen_line") ["self", "line", "most"] := funB (i := 15) S rfl fun _ _ _ _ _ _ us hl => match us, hl with | [_, _, _], _ => rfl
  have B16 : FunB K "between" "Network.between" (sNet 5) (nm K "between") ["self", "a", "b"] := funB (i := 16) S rfl fun _ _ _ _ _ _ us hl => match us, hl with | [_, _, _], _ => rfl
  have B17 : FunB K "whole_tree" "Network.whole_tree" (sNet 6) (nm K "whole_tree") ["self"] := funB (i := 17) S rfl fun _ _ _ _ _ _ us hl => match us, hl with | [_], _ => rfl
  have B18 : FunB K "told_between" "Network.told_between" (sNet 7) (nm K "told_between") ["self", "a", "b"] := funB (i := 18) S rfl fun _ _ _ _ _ _ us hl => match us, hl with | [_, _, _], _ => rfl
  have B19 : FunB K "edge" "Network.edge" (sNet 8) (nm K "edge") ["self", "side"] := funB (i := 19) S rfl fun _ _ _ _ _ _ us hl => match us, hl with | [_, _], _ => rfl
  have B20 : FunB K "weakest" "Network.weakest" (sNet 9) (nm K "weakest") ["self"] := funB (i := 20) S rfl fun _ _ _ _ _ _ us hl => match us, hl with | [_], _ => rfl
  have B21 : FunB K "answer_of" "answer_of" (top 30) (He.ga K "answer_of") ["network", "number", "given"] := funB (i := 21) S rfl fun _ _ _ _ _ _ us hl => match us, hl with | [_, _, _], _ => rfl
  have B22 : FunB K "answers" "answers" (top 31) (He.ga K "answers") ["calls"] := funB (i := 22) S rfl fun _ _ _ _ _ _ us hl => match us, hl with | [_], _ => rfl
  obtain ⟨fd, FA, _⟩ := B22
  have bt : ∀ (s : Shared) (us : List Value), us.length = (["calls"] : List Str).length → BindsTo s fd ⟨us, []⟩ ((["calls"] : List Str).zip us) := by
    obtain ⟨oc, od, kV, doc, pm, an, cdv, ct, osl, rfl, _, _⟩ := FA.ex
    exact fun s us hu => match us, hu with | [_], _ => .of_eq rfl
  have hG : ∀ H, SqT K H (He.ga K "GIVEN_COUNTS") (lV counts) := fun H => He.tupB_ok (vs := given) S.more H
  refine ⟨K, fd, [He.cT K lp], spAnswers K, X, fun p hp => ?_, fun p hp => ?_, fun p hp => ?_, bt, fun base _ _ TB => ?_, fun H0 H xs a hs hH hwi hask hx => ?_⟩
  · rw [List.mem_singleton.mp hp]
    exact S.empty lp (List.mem_singleton.mpr rfl)
  · rw [List.mem_singleton.mp hp]
    exact S.out lp (List.mem_singleton.mpr rfl)
  · rw [List.mem_singleton.mp hp]
    exact PySem.W.codeHd_of_K X (S.hd lp (List.mem_singleton.mpr rfl))
  · have TB1 := TB _ (List.mem_singleton.mpr rfl)
    have c0 := cal_of (P := PySem.Challenge.rw_treeofcuts_s01_answers.prog) (w := w) (mg := mg) (base := base) B0 fun fd F => ok_holds F
    have c1 := cal_of (P := PySem.Challenge.rw_treeofcuts_s01_answers.prog) (w := w) (mg := mg) (base := base) B1 fun fd F => ok_edge F
    have c2 := cal_of (P := PySem.Challenge.rw_treeofcuts_s01_answers.prog) (w := w) (mg := mg) (base := base) B2 fun fd F => ok_least F T c1 TB1
    have c3 := cal_of (P := PySem.Challenge.rw_treeofcuts_s01_answers.prog) (w := w) (mg := mg) (base := base) B3 fun fd F => ok_cut F T c0 c2
    have c4 := cal_of (P := PySem.Challenge.rw_treeofcuts_s01_answers.prog) (w := w) (mg := mg) (base := base) B4 fun fd F => ok_weak F T c2
    have c6 := cal_of (P := PySem.Challenge.rw_treeofcuts_s01_answers.prog) (w := w) (mg := mg) (base := base) B6 fun fd F => ok_part F T c0 c1 c3
    have c5 := cal_of (P := PySem.Challenge.rw_treeofcuts_s01_answers.prog) (w := w) (mg := mg) (base := base) B5 fun fd F => ok_tinit F T (He.meth_ok (S.t.d.fact 36)) c6
    have c7 := cal_of (P := PySem.Challenge.rw_treeofcuts_s01_answers.prog) (w := w) (mg := mg) (base := base) B7 fun fd F => ok_step F T
    have c8 := cal_of (P := PySem.Challenge.rw_treeofcuts_s01_answers.prog) (w := w) (mg := mg) (base := base) B8 fun fd F => ok_refused F
    have c9 := cal_of (P := PySem.Challenge.rw_treeofcuts_s01_answers.prog) (w := w) (mg := mg) (base := base) B9 fun fd F => ok_wrong F T
    have c10 := cal_of (P := PySem.Challenge.rw_treeofcuts_s01_answers.prog) (w := w) (mg := mg) (base := base) B10 fun fd F => ok_free F
    have c11 := cal_of (P := PySem.Challenge.rw_treeofcuts_s01_answers.prog) (w := w) (mg := mg) (base := base) B11 fun fd F => ok_ninit F T
    have M9 : Nine PySem.Challenge.rw_treeofcuts_s01_answers.prog w K mg base := {
      m0 := He.meth_ok (S.t.d.fact 38), g0 := cal_of B12 fun fd F => ok_start F T
      m1 := He.meth_ok (S.t.d.fact 39), g1 := cal_of B13 fun fd F => ok_line F T c9 c8 c10
      m2 := He.meth_ok (S.t.d.fact 40), g2 := cal_of B14 fun fd F => ok_drop F T c8
      m3 := He.meth_ok (S.t.d.fact 41), g3 := cal_of B15 fun fd F => ok_wide F T c8
      m4 := He.meth_ok (S.t.d.fact 42), g4 := cal_of B16 fun fd F => ok_betw F T c9 c8 c1 c3
      m5 := He.meth_ok (S.t.d.fact 43), g5 := cal_of B17 fun fd F => ok_whole F T (He.mkr_ok (S.t.d.fact 47)) c5
      m6 := He.meth_ok (S.t.d.fact 44), g6 := cal_of B18 fun fd F => ok_told F T (He.mkr_ok (S.t.d.fact 47)) c5 (He.meth_ok (S.t.d.fact 37)) c7 c9 c8
      m7 := He.meth_ok (S.t.d.fact 45), g7 := cal_of B19 fun fd F => ok_side F T c8 c1
      m8 := He.meth_ok (S.t.d.fact 46), g8 := cal_of B20 fun fd F => ok_wk F T c1 c4 }
    have c21 := cal_of (P := PySem.Challenge.rw_treeofcuts_s01_answers.prog) (w := w) (mg := mg) (base := base) B21 fun fd F => ok_ansof F T M9
    exact ok_answers FA T (He.mkr_ok (S.t.d.fact 48)) c11 c21 hG
  · cases hx with
    | cons h1 h2 =>
      cases h2
      cases h1 with
      | lst hsq ha =>
        have e := L2.ints_dw a.1 _ ha
        subst e
        refine ⟨_, a.1, rfl, hs.seq hsq, hask, fun p hp => ?_, fun H' r hr => .lst (L2.SqL.of hr) (L2.dw_ints _)⟩
        rw [List.mem_singleton.mp hp]
        exact TabS.nil (hH _ (List.mem_singleton.mpr rfl))
end
end Mk
open PySem PySem.W PyProof.Rows
set_option maxRecDepth 100000 in
set_option maxHeartbeats 8000000 in
theorem PySem.Challenge.cw_treeofcuts_s01_answers_holds : PySem.Challenge.rw_treeofcuts_s01_answers.Holds := by
  w_on
  o_headS (He.hookX 6 Mk.fas Mk.fns [] [Mk.lp] Mk.exB)
  case hw => exact ⟨[.list [.int 0]], by decide +kernel, by decide +kernel⟩
  case hc =>
    refine Mk.walk_specT (k := 11) (CX := L2.CX0) (ps := ["calls"]) (by decide +kernel) rfl rfl ⟨rfl, by decide, by decide⟩ ?_ (fun _ _ _ _ z => z)
    intro w mg fa h Y G hmg
    exact Mk.spec_at Y G hmg
#print axioms PySem.Challenge.cw_treeofcuts_s01_answers_holds
