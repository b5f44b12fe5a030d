import PyProof.Rows.All
import Wide.All
import OpenK.AllK
import Wide.FinOn
import Open.SpecLaws
import KE.OsGo
import HandS.ForSpec
import HandS.Comp
import HandS.Dict
import HandS.Iter
import HandS.WordsDict
import HandS.Walk
import HandS.WideBits
import HandS.More
import HandS.SortInts
import HandS.Text
import HandS.NoneIn
import HandS.CallLocal
import PySem.Challenge.RW_surehopes_s01_answers
set_option Elab.async false
namespace Sh
open Pn07
/-! ### acts -/
def canA (A : Act) (s : Nat) : Bool := A.pre.land s == A.pre && A.no.land s == 0
def nextA (A : Act) (s : Nat) : List Nat := A.outs.map fun x => (s - s.land x.2).lor x.1
def doneW (g s : Nat) : Bool := g.land s == g

/-! ### lists that rise -/
abbrev Rising (l : List Nat) : Prop := l.Pairwise (· < ·)
theorem rising_range (N : Nat) : Rising (List.range N) := List.pairwise_lt_range
theorem rising_filter {l : List Nat} (p : Nat → Bool) (h : Rising l) : Rising (l.filter p) := List.Pairwise.sublist List.filter_sublist h
theorem rising_nodup {l : List Nat} (h : Rising l) : l.Nodup := List.Pairwise.imp (fun {a b} (h : a < b) => Nat.ne_of_lt h) h
/-- two rising lists with the same members are one -/
theorem rising_ext : ∀ {l m : List Nat}, Rising l → Rising m → (∀ x, x ∈ l ↔ x ∈ m) → l = m
  | [], [], _, _, _ => rfl
  | [], b :: m, _, _, h => absurd ((h b).mpr (List.mem_cons_self ..)) (List.not_mem_nil)
  | a :: l, [], _, _, h => absurd ((h a).mp (List.mem_cons_self ..)) (List.not_mem_nil)
  | a :: l, b :: m, hl, hm, h => by
    obtain ⟨a1, a2⟩ := List.pairwise_cons.mp hl
    obtain ⟨b1, b2⟩ := List.pairwise_cons.mp hm
    have e : a = b := by
      rcases List.mem_cons.mp ((h a).mp (List.mem_cons_self ..)) with q | q
      · exact q
      · rcases List.mem_cons.mp ((h b).mpr (List.mem_cons_self ..)) with z | z
        · exact z.symm
        · have := b1 a q
          have := a1 b z
          omega
    subst e
    rw [rising_ext a2 b2 fun x => ?_]
    constructor
    · intro hx
      rcases List.mem_cons.mp ((h x).mp (List.mem_cons_of_mem _ hx)) with q | q
      · have := a1 x hx
        omega
      · exact q
    · intro hx
      rcases List.mem_cons.mp ((h x).mpr (List.mem_cons_of_mem _ hx)) with q | q
      · have := b1 x hx
        omega
      · exact q
/-- a rising list below N is a filter of range N -/
theorem rising_is {l : List Nat} {N : Nat} (h : Rising l) (hN : ∀ x ∈ l, x < N) : l = (List.range N).filter (l.contains ·) :=
  rising_ext h (rising_filter _ (rising_range N)) fun x => by
    rw [List.mem_filter, List.mem_range, List.contains_iff_mem]
    exact ⟨fun q => ⟨hN x q, q⟩, fun q => q.2⟩
theorem rising_len {l : List Nat} {N : Nat} (h : Rising l) (hN : ∀ x ∈ l, x < N) : l.length ≤ N := by
  rw [rising_is h hN]
  exact Nat.le_trans (List.length_filter_le _ _) (Nat.le_of_eq List.length_range)
/-- one within another that is no longer: they are one -/
theorem rising_sub {l m : List Nat} (hl : Rising l) (hm : Rising m) (s : ∀ x ∈ l, x ∈ m) : l = m ∨ l.length < m.length := by
  by_cases q : ∀ x ∈ m, x ∈ l
  · exact .inl (rising_ext hl hm fun x => ⟨s x, q x⟩)
  · refine .inr ?_
    obtain ⟨y, hy⟩ := Classical.not_forall.mp q
    obtain ⟨ym, yl⟩ := Classical.not_imp.mp hy
    have e : l = m.filter (l.contains ·) := rising_ext hl (rising_filter _ hm) fun x => by
      rw [List.mem_filter, List.contains_iff_mem]
      exact ⟨fun q => ⟨s x q, q⟩, fun q => q.2⟩
    have h2 : (m.filter (l.contains ·)).length ≤ m.length := List.length_filter_le _ _
    have h3 : ¬ (m.filter (l.contains ·)).length = m.length := by
      intro z
      have z2 := List.length_filter_eq_length_iff.mp z
      have := z2 y ym
      rw [List.contains_iff_mem] at this
      exact yl this
    have e2 : l.length = (m.filter (l.contains ·)).length := congrArg List.length e
    omega
/-- what is arranged rising, no item twice -/
theorem sorted_ext {l m : List Nat} (hp : l.Pairwise (· ≤ ·)) (hn : l.Nodup) (hm : Rising m) (h : ∀ x, x ∈ l ↔ x ∈ m) : l = m := by
  refine rising_ext ?_ hm h
  have : l.Pairwise fun a b => a ≤ b ∧ a ≠ b := List.pairwise_and_iff.mpr ⟨hp, hn⟩
  exact this.imp fun {a b} h => by omega

/-! ### what one may come to -/
inductive Reach (nx : Nat → List Nat) (s : Nat) : Nat → Prop
  | start : Reach nx s s
  | step {u v : Nat} : Reach nx s u → v ∈ nx u → Reach nx s v
theorem Reach.lt {nx : Nat → List Nat} {s N : Nat} (hs : s < N) (hc : ∀ u, u < N → ∀ v ∈ nx u, v < N) {v : Nat} (h : Reach nx s v) : v < N := by
  induction h with
  | start => exact hs
  | step _ q ih => exact hc _ ih _ q
/-- a set that holds the start and all that follows holds all -/
theorem Reach.into {nx : Nat → List Nat} {s : Nat} {p : Nat → Prop} (h0 : p s) (hc : ∀ u, p u → ∀ v ∈ nx u, p v) {v : Nat} (h : Reach nx s v) : p v := by
  induction h with
  | start => exact h0
  | step _ q ih => exact hc _ ih _ q

/-- where the specification goes on from a state by a rule -/
def nxS (t : Task) (f : Rule) (u : Nat) : List Nat := if t.done u = true then [] else match f u with
  | some k => if t.can u k = true then t.next u k else []
  | none => []
theorem mem_nxS {t : Task} {f : Rule} {u v : Nat} : v ∈ nxS t f u ↔ (!t.done u && (match f u with
      | some k => t.can u k && (t.next u k).contains v
      | none => false)) = true := by
  unfold nxS
  cases hd : t.done u
  · cases hf : f u with
    | none => simp
    | some k =>
      cases hc : t.can u k
      · simp [hc]
      · simp [hc]
  · simp
section
variable {t : Task} {f : Rule} {s : Nat}
abbrev sz (t : Task) : Nat := 2 ^ t.facts
theorem mem_states {x : Nat} : x ∈ t.states ↔ x < sz t := List.mem_range
/-- the specification's closure: rising, and just what one may come to -/
theorem under_all (hc : ∀ u, u < sz t → ∀ v ∈ nxS t f u, v < sz t) (hs : s < sz t) : ∀ (n : Nat) (l : List Nat), sz t < l.length + n → Rising l → (∀ x ∈ l, x < sz t ∧ Reach (nxS t f) s x) → s ∈ l →
    Rising (t.under f n l) ∧ ∀ x, x ∈ t.under f n l ↔ Reach (nxS t f) s x
  | 0, l, hl, hr, hi, _ => by
    have := rising_len hr fun x hx => (hi x hx).1
    omega
  | n + 1, l, hl, hr, hi, h0 => by
    let m := t.states.filter fun s => l.contains s || l.any fun u => !t.done u && (match f u with
      | some k => t.can u k && (t.next u k).contains s
      | none => false)
    have hm : Rising m := rising_filter _ (rising_range _)
    have mem : ∀ x, x ∈ m ↔ x < sz t ∧ (x ∈ l ∨ ∃ u ∈ l, x ∈ nxS t f u) := fun x => by
      show x ∈ t.states.filter _ ↔ _
      rw [List.mem_filter, mem_states, Bool.or_eq_true, List.contains_iff_mem, List.any_eq_true]
      constructor
      · rintro ⟨h1, h2 | ⟨u, hu, h2⟩⟩
        · exact ⟨h1, .inl h2⟩
        · exact ⟨h1, .inr ⟨u, hu, mem_nxS.mpr h2⟩⟩
      · rintro ⟨h1, h2 | ⟨u, hu, h2⟩⟩
        · exact ⟨h1, .inl h2⟩
        · exact ⟨h1, .inr ⟨u, hu, mem_nxS.mp h2⟩⟩
    have hsub : ∀ x ∈ l, x ∈ m := fun x hx => (mem x).mpr ⟨(hi x hx).1, .inl hx⟩
    have hmi : ∀ x ∈ m, x < sz t ∧ Reach (nxS t f) s x := fun x hx => by
      obtain ⟨h1, h2 | ⟨u, hu, h2⟩⟩ := (mem x).mp hx
      · exact hi x h2
      · exact ⟨h1, .step (hi u hu).2 h2⟩
    show Rising (if m = l then l else t.under f n m) ∧ ∀ x, x ∈ (if m = l then l else t.under f n m) ↔ Reach (nxS t f) s x
    by_cases e : m = l
    · rw [if_pos e]
      refine ⟨hr, fun x => ⟨fun hx => (hi x hx).2, fun hx => ?_⟩⟩
      refine Reach.into (p := fun x => x ∈ l) h0 (fun u hu v hv => ?_) hx
      rw [← e]
      exact (mem v).mpr ⟨hc u (hi u hu).1 v hv, .inr ⟨u, hu, hv⟩⟩
    · rw [if_neg e]
      refine under_all hc hs n m ?_ hm hmi (hsub s h0)
      rcases rising_sub hr hm hsub with q | q
      · exact absurd q.symm e
      · omega
theorem ways_all (hc : ∀ u, u < sz t → ∀ v ∈ nxS t f u, v < sz t) (hs : s < sz t) : Rising (t.ways f s) ∧ ∀ x, x ∈ t.ways f s ↔ Reach (nxS t f) s x :=
  under_all hc hs (sz t) [s] (by simp only [List.length_singleton]; omega) (List.pairwise_singleton ..) (fun x hx => by
    rw [List.mem_singleton] at hx
    subst hx
    exact ⟨hs, .start⟩) (List.mem_singleton.mpr rfl)

/-! ### well-formed tasks -/
structure WfA (N : Nat) (a : Act) : Prop where
  pre : a.pre < N
  no : a.no < N
  least : 1 ≤ a.outs.length
  most : a.outs.length ≤ 3
  outs : ∀ x ∈ a.outs, x.1 < N ∧ x.2 < N
structure Wf (t : Task) : Prop where
  f1 : 1 ≤ t.facts
  f4 : t.facts ≤ 4
  goal : t.goal < sz t
  few : t.acts.length ≤ 6
  acts : ∀ a ∈ t.acts, WfA (sz t) a
theorem lor_lt {a b n : Nat} (ha : a < 2 ^ n) (hb : b < 2 ^ n) : a.lor b < 2 ^ n := Nat.or_lt_two_pow ha hb
theorem next_lt (w : Wf t) {u k : Nat} (hu : u < sz t) (hk : k < t.acts.length) : ∀ v ∈ t.next u k, v < sz t := by
  intro v hv
  have e : t.act k = t.acts[k] := by
    unfold Task.act
    rw [List.getD_eq_getElem?_getD, List.getElem?_eq_getElem hk, Option.getD_some]
  obtain ⟨x, hx, rfl⟩ := List.mem_map.mp hv
  rw [e] at hx
  have := (w.acts _ (List.getElem_mem hk)).outs x hx
  refine lor_lt ?_ this.1
  exact Nat.lt_of_le_of_lt (Nat.sub_le _ _) hu
theorem can_lt {u k : Nat} (h : t.can u k = true) : k < t.acts.length := by
  unfold Task.can at h
  rw [Bool.and_eq_true] at h
  exact of_decide_eq_true h.1
theorem nxS_lt (w : Wf t) : ∀ u, u < sz t → ∀ v ∈ nxS t f u, v < sz t := by
  intro u hu v hv
  unfold nxS at hv
  split at hv
  · simp at hv
  · split at hv
    · split at hv
      · exact next_lt w hu (can_lt (by assumption)) v hv
      · simp at hv
    · simp at hv
end

/-! ### levels -/
theorem find_some_iff {n m : Nat} {p : Nat → Bool} : (List.range n).find? p = some m ↔ m < n ∧ p m = true ∧ ∀ j, j < m → p j = false := by
  rw [List.find?_range_eq_some]
  constructor
  · rintro ⟨h1, h2, h3⟩
    exact ⟨List.mem_range.mp h2, h1, fun j hj => by simpa using h3 j hj⟩
  · rintro ⟨h1, h2, h3⟩
    exact ⟨h2, List.mem_range.mpr h1, fun j hj => by simpa using h3 j hj⟩
theorem level_some {l : List (List Nat)} {s n : Nat} : level l s = some n ↔ n < l.length ∧ s ∈ l.getD n [] ∧ ∀ j, j < n → s ∉ l.getD j [] := by
  unfold level
  rw [find_some_iff, List.contains_iff_mem]
  constructor
  · rintro ⟨h1, h2, h3⟩
    refine ⟨h1, h2, fun j hj z => ?_⟩
    have := h3 j hj
    rw [List.contains_iff_mem.mpr z] at this
    cases this
  · rintro ⟨h1, h2, h3⟩
    refine ⟨h1, h2, fun j hj => ?_⟩
    cases e : (l.getD j []).contains s with
    | false => rfl
    | true => exact absurd (List.contains_iff_mem.mp e) (h3 j hj)
theorem level_none {l : List (List Nat)} {s : Nat} : level l s = none ↔ s ∉ l.flatten := by
  unfold level
  rw [List.find?_eq_none]
  constructor
  · intro h z
    obtain ⟨x, hx, hs⟩ := List.mem_flatten.mp z
    obtain ⟨n, hn, e⟩ := List.getElem_of_mem hx
    have := h n (List.mem_range.mpr hn)
    rw [List.getD_eq_getElem?_getD, List.getElem?_eq_getElem hn, Option.getD_some, e, List.contains_iff_mem] at this
    exact this hs
  · intro h n hn z
    rw [List.contains_iff_mem] at z
    have hn := List.mem_range.mp hn
    rw [List.getD_eq_getElem?_getD, List.getElem?_eq_getElem hn, Option.getD_some] at z
    exact h (List.mem_flatten.mpr ⟨_, List.getElem_mem hn, z⟩)

/-! ### the program's levels: pairs of a state and its level, in the order in which they were found -/
def upTo (kvs : List (Nat × Nat)) (top u : Nat) : Bool := match kvs.lookup u with
  | some m => decide (m ≤ top)
  | none => false
def actOf (acts : List Act) (k : Nat) : Act := acts.getD k ⟨0, 0, []⟩
/-- lowest_sure_act -/
def lowA (acts : List Act) (kvs : List (Nat × Nat)) (s top : Nat) : Option Nat := (List.range acts.length).find? fun k => canA (actOf acts k) s && (nextA (actOf acts k) s).all (upTo kvs top)
/-- states_above -/
def above (acts : List Act) (kvs : List (Nat × Nat)) (N top : Nat) : List Nat := (List.range N).filter fun s => (kvs.lookup s).isNone && (lowA acts kvs s top).isSome
/-- sure_levels -/
def lv0 (g N : Nat) : List (Nat × Nat) := ((List.range N).filter (doneW g)).map fun s => (s, 0)
def lvGo (acts : List Act) (N : Nat) : Nat → Nat → List (Nat × Nat) → List (Nat × Nat)
  | 0, _, kvs => kvs
  | n + 1, top, kvs => if (above acts kvs N top).length = 0 then kvs else lvGo acts N n (top + 1) (kvs ++ (above acts kvs N top).map fun s => (s, top + 1))
def lvAll (acts : List Act) (g N : Nat) : List (Nat × Nat) := lvGo acts N N 0 (lv0 g N)
theorem lookup_append {α β : Type} [BEq α] (l m : List (α × β)) (a : α) : (l ++ m).lookup a = (l.lookup a).or (m.lookup a) := by
  induction l with
  | nil => simp
  | cons p r ih =>
    obtain ⟨x, y⟩ := p
    simp only [List.cons_append, List.lookup_cons]
    cases (a == x) <;> simp [ih]
theorem lookup_none {kvs : List (Nat × Nat)} {s : Nat} : kvs.lookup s = none ↔ s ∉ kvs.map (·.1) := by
  induction kvs with
  | nil => simp
  | cons p r ih =>
    obtain ⟨x, y⟩ := p
    simp only [List.lookup_cons, List.map_cons, List.mem_cons]
    by_cases e : s = x
    · simp [e]
    · have : (s == x) = false := by simp [e]
      rw [this]
      simp [e, ih]
theorem lookup_const {l : List Nat} {n s : Nat} : (l.map fun x => (x, n)).lookup s = if s ∈ l then some n else none := by
  induction l with
  | nil => simp
  | cons x r ih =>
    simp only [List.map_cons, List.lookup_cons, List.mem_cons]
    by_cases e : s = x
    · simp [e]
    · have : (s == x) = false := by simp [e]
      rw [this]
      simp [e, ih]
theorem above_lt {acts : List Act} {kvs : List (Nat × Nat)} {N top x : Nat} (h : x ∈ above acts kvs N top) : x < N ∧ kvs.lookup x = none := by
  obtain ⟨h1, h2⟩ := List.mem_filter.mp h
  rw [Bool.and_eq_true] at h2
  exact ⟨List.mem_range.mp h1, Option.isNone_iff_eq_none.mp h2.1⟩
theorem above_nodup {acts : List Act} {kvs : List (Nat × Nat)} {N top : Nat} : (above acts kvs N top).Nodup := List.Pairwise.sublist List.filter_sublist List.nodup_range
theorem pairs_keys {l : List Nat} {n : Nat} : (l.map fun s => (s, n)).map (·.1) = l := by
  rw [List.map_map]
  exact List.map_id' l
/-- keys below N, none twice -/
structure Keyed (N : Nat) (kvs : List (Nat × Nat)) : Prop where
  nd : (kvs.map (·.1)).Nodup
  lt : ∀ x ∈ kvs.map (·.1), x < N
theorem nodup_len {l : List Nat} {N : Nat} (h : l.Nodup) (hN : ∀ x ∈ l, x < N) : l.length ≤ N := by
  have := List.Nodup.length_le_of_subset h (l₂ := List.range N) fun x hx => List.mem_range.mpr (hN x hx)
  rw [List.length_range] at this
  exact this
theorem Keyed.len {N : Nat} {kvs : List (Nat × Nat)} (h : Keyed N kvs) : kvs.length ≤ N := by
  have := nodup_len h.nd h.lt
  rw [List.length_map] at this
  exact this
theorem Keyed.more {N n : Nat} {kvs : List (Nat × Nat)} {l : List Nat} (h : Keyed N kvs) (hn : l.Nodup) (hl : ∀ x ∈ l, x < N ∧ kvs.lookup x = none) : Keyed N (kvs ++ l.map fun s => (s, n)) := by
  refine ⟨?_, fun x hx => ?_⟩
  · rw [List.map_append, pairs_keys, List.nodup_append]
    refine ⟨h.nd, hn, fun a ha b hb e => ?_⟩
    subst e
    exact lookup_none.mp (hl a hb).2 ha
  · rw [List.map_append, pairs_keys, List.mem_append] at hx
    rcases hx with q | q
    · exact h.lt x q
    · exact (hl x q).1
theorem keyed_lv0 (g N : Nat) : Keyed N (lv0 g N) := by
  refine ⟨?_, fun x hx => ?_⟩
  · unfold lv0
    rw [pairs_keys]
    exact List.Pairwise.sublist List.filter_sublist List.nodup_range
  · unfold lv0 at hx
    rw [pairs_keys] at hx
    exact List.mem_range.mp (List.mem_filter.mp hx).1
theorem keyed_go {acts : List Act} {N : Nat} : ∀ (n top : Nat) (kvs : List (Nat × Nat)), Keyed N kvs → Keyed N (lvGo acts N n top kvs)
  | 0, _, _, h => h
  | n + 1, top, kvs, h => by
    show Keyed N (if (above acts kvs N top).length = 0 then kvs else lvGo acts N n (top + 1) (kvs ++ (above acts kvs N top).map fun s => (s, top + 1)))
    split
    · exact h
    · exact keyed_go n _ _ (h.more above_nodup fun x hx => above_lt hx)
end Sh
set_option Elab.async false
namespace Sh
open Pn07
/-! ### the specification's levels and the program's pairs -/
def pairsFrom : Nat → List (List Nat) → List (Nat × Nat)
  | _, [] => []
  | n, x :: r => (x.map fun s => (s, n)) ++ pairsFrom (n + 1) r
theorem pairsFrom_snoc : ∀ (l : List (List Nat)) (n : Nat) (x : List Nat), pairsFrom n (l ++ [x]) = pairsFrom n l ++ x.map fun s => (s, n + l.length)
  | [], n, x => by
    show (x.map fun s => (s, n)) ++ [] = [] ++ x.map fun s => (s, n + 0)
    rw [List.append_nil, List.nil_append, Nat.add_zero]
  | y :: l, n, x => by
    show (y.map fun s => (s, n)) ++ pairsFrom (n + 1) (l ++ [x]) = ((y.map fun s => (s, n)) ++ pairsFrom (n + 1) l) ++ x.map fun s => (s, n + (l.length + 1))
    rw [pairsFrom_snoc l (n + 1) x, List.append_assoc, show n + 1 + l.length = n + (l.length + 1) by omega]
theorem level_cons (x : List Nat) (r : List (List Nat)) (s : Nat) : level (x :: r) s = if s ∈ x then some 0 else (level r s).map (· + 1) := by
  by_cases h : s ∈ x
  · rw [if_pos h]
    exact level_some.mpr ⟨Nat.zero_lt_succ _, h, fun j hj => absurd hj (Nat.not_lt_zero _)⟩
  · rw [if_neg h]
    cases e : level r s with
    | none =>
      rw [Option.map_none, level_none, List.flatten_cons, List.mem_append]
      rintro (z | z)
      · exact h z
      · exact level_none.mp e z
    | some n =>
      obtain ⟨h1, h2, h3⟩ := level_some.mp e
      refine level_some.mpr ⟨Nat.succ_lt_succ h1, h2, fun j hj => ?_⟩
      cases j with
      | zero => exact h
      | succ j => exact h3 j (Nat.lt_of_succ_lt_succ hj)
theorem pairsFrom_lookup : ∀ (l : List (List Nat)) (n s : Nat), (pairsFrom n l).lookup s = (level l s).map (· + n)
  | [], n, s => rfl
  | x :: r, n, s => by
    show ((x.map fun s => (s, n)) ++ pairsFrom (n + 1) r).lookup s = _
    rw [lookup_append, lookup_const, pairsFrom_lookup r (n + 1) s, level_cons]
    by_cases h : s ∈ x
    · rw [if_pos h, if_pos h, Option.some_or, Option.map_some, Nat.zero_add]
    · rw [if_neg h, if_neg h, Option.none_or, Option.map_map]
      congr 1
      funext m
      show m + (n + 1) = m + 1 + n
      omega
abbrev prs (l : List (List Nat)) : List (Nat × Nat) := pairsFrom 0 l
theorem prs_lookup (l : List (List Nat)) (s : Nat) : (prs l).lookup s = level l s := by
  rw [pairsFrom_lookup]
  cases level l s <;> rfl
theorem prs_keys : ∀ (l : List (List Nat)) (n : Nat), (pairsFrom n l).map (·.1) = l.flatten
  | [], _ => rfl
  | x :: r, n => by
    show ((x.map fun s => (s, n)) ++ pairsFrom (n + 1) r).map (·.1) = _
    rw [List.map_append, pairs_keys, prs_keys r (n + 1), List.flatten_cons]
theorem level_lt {l : List (List Nat)} {s n : Nat} (h : level l s = some n) : n < l.length := (level_some.mp h).1
theorem level_isSome {l : List (List Nat)} {s : Nat} : (level l s).isSome = l.flatten.contains s := by
  cases e : level l s with
  | none =>
    cases q : l.flatten.contains s with
    | false => rfl
    | true => exact absurd (List.contains_iff_mem.mp q) (level_none.mp e)
  | some n =>
    cases q : l.flatten.contains s with
    | true => rfl
    | false =>
      have : s ∉ l.flatten := fun z => by rw [List.contains_iff_mem.mpr z] at q; cases q
      rw [level_none.mpr this] at e
      cases e
/-- all levels that there are -/
theorem upTo_all {l : List (List Nat)} {top u : Nat} (h : l.length = top + 1) : upTo (prs l) top u = l.flatten.contains u := by
  unfold upTo
  rw [prs_lookup, ← level_isSome]
  cases e : level l u with
  | none => rfl
  | some m =>
    have := level_lt e
    exact decide_eq_true (by omega)
theorem find_filter {α : Type} (l : List α) (p q : α → Bool) : (l.filter p).find? q = l.find? fun x => p x && q x := by
  rw [List.find?_filter]
  congr 1
  funext x
  simp
section
variable {t : Task}
theorem can_canA {s k : Nat} (h : k < t.acts.length) : t.can s k = canA (actOf t.acts k) s := by
  unfold Task.can
  rw [decide_eq_true h, Bool.true_and]
  rfl
theorem next_nextA (s k : Nat) : t.next s k = nextA (actOf t.acts k) s := rfl
theorem find_congr {n : Nat} {p q : Nat → Bool} (h : ∀ k, k < n → p k = q k) : (List.range n).find? p = (List.range n).find? q := by
  cases e : (List.range n).find? q with
  | none =>
    rw [List.find?_eq_none] at e ⊢
    intro k hk
    rw [h k (List.mem_range.mp hk)]
    exact e k hk
  | some m =>
    rw [find_some_iff] at e ⊢
    refine ⟨e.1, (h m e.1).trans e.2.1, fun j hj => (h j (by omega)).trans (e.2.2 j hj)⟩
theorem cans_find (s : Nat) (q : Nat → Bool) : (t.cans s).find? q = (List.range t.acts.length).find? fun k => canA (actOf t.acts k) s && q k := by
  unfold Task.cans
  rw [find_filter]
  exact find_congr fun k hk => by rw [can_canA hk]
theorem cans_any (s : Nat) (q : Nat → Bool) : (t.cans s).any q = ((t.cans s).find? q).isSome := by
  cases e : (t.cans s).find? q with
  | none =>
    rw [List.find?_eq_none] at e
    exact List.any_eq_false.mpr e
  | some x => exact List.any_eq_true.mpr ⟨x, List.mem_of_find?_eq_some e, List.find?_some e⟩
/-- one round of the specification and of the program -/
theorem above_new {l : List (List Nat)} {top : Nat} (h : l.length = top + 1) : above t.acts (prs l) (sz t) top = t.states.filter fun s => !l.flatten.contains s && (t.cans s).any fun k => (t.next s k).all l.flatten.contains := by
  unfold above Task.states
  refine List.filter_congr fun s _ => ?_
  have e1 : ((prs l).lookup s).isNone = !l.flatten.contains s := by
    rw [prs_lookup, ← level_isSome]
    cases level l s <;> rfl
  have e2 : lowA t.acts (prs l) s top = (t.cans s).find? fun k => (t.next s k).all l.flatten.contains := by
    rw [cans_find]
    unfold lowA
    refine find_congr fun k _ => ?_
    congr 1
    show (nextA _ s).all _ = (nextA _ s).all _
    congr 1
    funext u
    exact upTo_all h
  rw [e1, e2, cans_any]
theorem go_levels : ∀ (n top : Nat) (l : List (List Nat)), l.length = top + 1 → lvGo t.acts (sz t) n top (prs l) = prs (t.levels n l)
  | 0, _, _, _ => rfl
  | n + 1, top, l, h => by
    have e := above_new (t := t) h
    show (if (above t.acts (prs l) (sz t) top).length = 0 then prs l else lvGo t.acts (sz t) n (top + 1) (prs l ++ (above t.acts (prs l) (sz t) top).map fun s => (s, top + 1))) =
      prs (if (t.states.filter fun s => !l.flatten.contains s && (t.cans s).any fun k => (t.next s k).all l.flatten.contains).isEmpty = true then l else t.levels n (l ++ [t.states.filter fun s => !l.flatten.contains s && (t.cans s).any fun k => (t.next s k).all l.flatten.contains]))
    rw [e]
    generalize hx : (t.states.filter fun s => !l.flatten.contains s && (t.cans s).any fun k => (t.next s k).all l.flatten.contains) = x
    cases x with
    | nil => rfl
    | cons a r =>
      show lvGo t.acts (sz t) n (top + 1) (prs l ++ (a :: r).map fun s => (s, top + 1)) = prs (t.levels n (l ++ [a :: r]))
      rw [← go_levels n (top + 1) (l ++ [a :: r]) (by rw [List.length_append, h]; rfl)]
      show _ = lvGo t.acts (sz t) n (top + 1) (pairsFrom 0 (l ++ [a :: r]))
      rw [pairsFrom_snoc, Nat.zero_add, h]
theorem lv_sure : lvAll t.acts t.goal (sz t) = prs t.sure := by
  unfold lvAll Task.sure
  rw [← go_levels (sz t) 0 [t.states.filter t.done] rfl]
  congr 1
  show lv0 t.goal (sz t) = (List.map (fun s => (s, 0)) (t.states.filter t.done)) ++ []
  rw [List.append_nil]
  rfl
/-! ### every level stands upon those below -/
structure Stood (t : Task) (l : List (List Nat)) : Prop where
  ne : l ≠ []
  zero : l.getD 0 [] = t.states.filter t.done
  up : ∀ n s, n + 1 < l.length → s ∈ l.getD (n + 1) [] → s < sz t ∧ s ∉ (l.take (n + 1)).flatten ∧ ((t.cans s).find? fun k => (t.next s k).all (l.take (n + 1)).flatten.contains).isSome = true
theorem getD_append_left {l : List (List Nat)} {x : List Nat} {n : Nat} (h : n < l.length) : (l ++ [x]).getD n [] = l.getD n [] := by
  rw [List.getD_eq_getElem?_getD, List.getD_eq_getElem?_getD, List.getElem?_append_left h]
theorem stood_levels : ∀ (n : Nat) (l : List (List Nat)), Stood t l → Stood t (t.levels n l)
  | 0, _, h => h
  | n + 1, l, h => by
    show Stood t (if (t.states.filter fun s => !l.flatten.contains s && (t.cans s).any fun k => (t.next s k).all l.flatten.contains).isEmpty = true then l else t.levels n (l ++ [t.states.filter fun s => !l.flatten.contains s && (t.cans s).any fun k => (t.next s k).all l.flatten.contains]))
    split
    · exact h
    · refine stood_levels n _ ⟨fun z => absurd (List.append_eq_nil_iff.mp z).2 (by simp), ?_, fun m s hm hs => ?_⟩
      · have hl : 0 < l.length := List.length_pos_iff.mpr h.ne
        rw [getD_append_left hl]
        exact h.zero
      · rw [List.length_append, List.length_singleton] at hm
        by_cases e : m + 1 < l.length
        · rw [getD_append_left e] at hs
          rw [List.take_append_of_le_length (by omega)]
          exact h.up m s e hs
        · have e : m + 1 = l.length := by omega
          rw [e, List.getD_eq_getElem?_getD, List.getElem?_append_right (Nat.le_refl _), Nat.sub_self, List.getElem?_cons_zero, Option.getD_some] at hs
          obtain ⟨h1, h2⟩ := List.mem_filter.mp hs
          rw [Bool.and_eq_true, Bool.not_eq_true', cans_any] at h2
          rw [e, List.take_left']
          · refine ⟨mem_states.mp h1, fun z => ?_, h2.2⟩
            rw [List.contains_iff_mem.mpr z] at h2
            exact nomatch h2.1
          · rfl
theorem stood_sure : Stood t t.sure := stood_levels _ _ ⟨by simp, rfl, fun n s h _ => by
  simp only [List.length_singleton] at h
  omega⟩
theorem mem_take_flatten {l : List (List Nat)} {n u : Nat} (hn : n ≤ l.length) : u ∈ (l.take n).flatten ↔ ∃ m, m < n ∧ u ∈ l.getD m [] := by
  rw [List.mem_flatten]
  constructor
  · rintro ⟨x, hx, hu⟩
    obtain ⟨m, hm, rfl⟩ := List.getElem_of_mem hx
    rw [List.length_take] at hm
    rw [List.getElem_take] at hu
    refine ⟨m, by omega, ?_⟩
    rw [List.getD_eq_getElem?_getD, List.getElem?_eq_getElem (by omega)]
    exact hu
  · rintro ⟨m, hm, hu⟩
    have hm2 : m < l.length := by omega
    rw [List.getD_eq_getElem?_getD, List.getElem?_eq_getElem hm2] at hu
    refine ⟨l[m], ?_, hu⟩
    have : m < (l.take n).length := by rw [List.length_take]; omega
    have e : (l.take n)[m] = l[m] := List.getElem_take
    rw [← e]
    exact List.getElem_mem this
/-- u is of a level up to n -/
theorem level_le {l : List (List Nat)} {n u : Nat} (hn : n < l.length) : (match level l u with
    | some m => decide (m ≤ n)
    | none => false) = (l.take (n + 1)).flatten.contains u := by
  cases q : (l.take (n + 1)).flatten.contains u with
  | true =>
    obtain ⟨m, hm, hu⟩ := (mem_take_flatten (by omega)).mp (List.contains_iff_mem.mp q)
    cases e : level l u with
    | none =>
      refine absurd ?_ (level_none.mp e)
      have := (mem_take_flatten (l := l) (n := l.length) (Nat.le_refl _)).mpr ⟨m, by omega, hu⟩
      rw [List.take_length] at this
      exact this
    | some j =>
      obtain ⟨h1, h2, h3⟩ := level_some.mp e
      refine decide_eq_true (Nat.le_of_not_lt fun z => h3 m (by omega) hu)
  | false =>
    cases e : level l u with
    | none => rfl
    | some j =>
      obtain ⟨h1, h2, h3⟩ := level_some.mp e
      refine decide_eq_false fun z => ?_
      have := List.contains_iff_mem.mpr ((mem_take_flatten (n := n + 1) (by omega)).mpr ⟨j, by omega, h2⟩)
      rw [this] at q
      cases q
/-- the program's lowest act is the specification's -/
theorem low_find {l : List (List Nat)} (s n : Nat) : lowA t.acts (prs l) s n = (t.cans s).find? fun k => (t.next s k).all fun u => match level l u with
    | some m => decide (m ≤ n)
    | none => false := by
  rw [cans_find]
  unfold lowA
  refine find_congr fun k _ => ?_
  congr 1
  show (nextA _ s).all _ = (nextA _ s).all _
  congr 1
  funext u
  unfold upTo
  rw [prs_lookup]
  all_goals (cases level l u <;> rfl)
/-- the sure rule, by the levels -/
def ruleA (acts : List Act) (kvs : List (Nat × Nat)) (s : Nat) : Option Nat := match kvs.lookup s with
  | some (n + 1) => lowA acts kvs s n
  | _ => none
theorem rule_sure (l : List (List Nat)) (s : Nat) : ruleA t.acts (prs l) s = t.sureAct l s := by
  unfold ruleA Task.sureAct
  rw [prs_lookup]
  cases level l s with
  | none => rfl
  | some n =>
    cases n with
    | zero => rfl
    | succ n => exact low_find s n
theorem sure_has {s n : Nat} (h : level t.sure s = some (n + 1)) : (lowA t.acts (prs t.sure) s n).isSome = true := by
  obtain ⟨h1, h2, _⟩ := level_some.mp h
  obtain ⟨_, _, h5⟩ := stood_sure.up n s h1 h2
  rw [low_find]
  have e : (fun k => (t.next s k).all fun u => match level t.sure u with
    | some m => decide (m ≤ n)
    | none => false) = fun k => (t.next s k).all (t.sure.take (n + 1)).flatten.contains := by
    funext k
    congr 1
    funext u
    exact level_le (by omega)
  rw [e]
  exact h5
theorem sure_lt {s n : Nat} (h : level t.sure s = some n) : s < sz t := by
  obtain ⟨h1, h2, _⟩ := level_some.mp h
  cases n with
  | zero =>
    rw [stood_sure.zero] at h2
    exact mem_states.mp (List.mem_filter.mp h2).1
  | succ n => exact (stood_sure.up n s h1 h2).1
theorem sureAct_some {s k : Nat} (h : t.sureAct t.sure s = some k) : t.done s = false ∧ t.can s k = true ∧ s < sz t := by
  unfold Task.sureAct at h
  cases e : level t.sure s with
  | none => rw [e] at h; cases h
  | some n =>
    rw [e] at h
    cases n with
    | zero => cases h
    | succ n =>
      have hlt := sure_lt e
      refine ⟨?_, ?_, hlt⟩
      · obtain ⟨h1, h2, h3⟩ := level_some.mp e
        have := h3 0 (Nat.zero_lt_succ _)
        rw [stood_sure.zero, List.mem_filter] at this
        cases q : t.done s with
        | false => rfl
        | true => exact absurd ⟨mem_states.mpr hlt, q⟩ this
      · exact (List.mem_filter.mp (List.mem_of_find?_eq_some h)).2
/-- a rule that is told where it is not as wanted alone, and of acts that may be done -/
structure GoodRule (t : Task) (f : Rule) : Prop where
  ok : ∀ s k, f s = some k → t.done s = false ∧ t.can s k = true
def nxF (t : Task) (f : Rule) (u : Nat) : List Nat := match f u with
  | some k => t.next u k
  | none => []
theorem GoodRule.nx {f : Rule} (g : GoodRule t f) : nxS t f = nxF t f := by
  funext u
  unfold nxS nxF
  cases e : f u with
  | none => simp
  | some k =>
    obtain ⟨h1, h2⟩ := g.ok u k e
    simp [h1, h2]
theorem GoodRule.told {f : Rule} (g : GoodRule t f) (s : Nat) : t.told f s = (t.ways f s).flatMap fun u => match f u with
    | some k => [u, k]
    | none => [] := by
  unfold Task.told
  congr 1
  funext u
  cases e : f u with
  | none => rfl
  | some k =>
    obtain ⟨h1, _⟩ := g.ok u k e
    simp [h1]
theorem good_sure : GoodRule t (t.sureAct t.sure) := ⟨fun _ _ h => ⟨(sureAct_some h).1, (sureAct_some h).2.1⟩⟩
end
end Sh
set_option Elab.async false
namespace Sh
open Pn07
/-! ### rounds: what is new by what there is, till nothing is new -/
def newOf (B : List Nat) (C : List Nat → Nat → Bool) (all : List Nat) : List Nat := B.filter fun s => !all.contains s && C all s
def rounds (B : List Nat) (C : List Nat → Nat → Bool) : Nat → List (List Nat) → List (List Nat)
  | 0, l => l
  | n + 1, l => if (newOf B C l.flatten).isEmpty = true then l else rounds B C n (l ++ [newOf B C l.flatten])
section
variable {t : Task}
def cSure (t : Task) : List Nat → Nat → Bool := fun all s => (t.cans s).any fun k => (t.next s k).all all.contains
def cHope (t : Task) (x : List Nat) : List Nat → Nat → Bool := fun all s => (t.cans s).any fun k => (t.next s k).all x.contains && (t.next s k).any all.contains
def cBy (t : Task) (f : Rule) : List Nat → Nat → Bool := fun all s => match f s with
  | some k => t.can s k && (t.next s k).all all.contains
  | none => false
theorem levels_rounds : ∀ (n : Nat) (l : List (List Nat)), t.levels n l = rounds t.states (cSure t) n l
  | 0, _ => rfl
  | n + 1, l => by
    show (if _ then _ else t.levels n _) = (if _ then _ else rounds _ _ n _)
    rw [levels_rounds n]
    rfl
theorem hopes_rounds (x : List Nat) : ∀ (n : Nat) (l : List (List Nat)), t.hopes x n l = rounds x (cHope t x) n l
  | 0, _ => rfl
  | n + 1, l => by
    show (if _ then _ else t.hopes x n _) = (if _ then _ else rounds _ _ n _)
    rw [hopes_rounds x n]
    rfl
theorem by_rounds (f : Rule) : ∀ (n : Nat) (l : List (List Nat)), t.by_ f n l = rounds t.states (cBy t f) n l
  | 0, _ => rfl
  | n + 1, l => by
    show (if _ then _ else t.by_ f n _) = (if _ then _ else rounds _ _ n _)
    rw [by_rounds f n]
    rfl
end
section
variable {B : List Nat} {C : List Nat → Nat → Bool} {d : Nat → Bool} {l : List (List Nat)}
structure Built (B : List Nat) (C : List Nat → Nat → Bool) (d : Nat → Bool) (l : List (List Nat)) : Prop where
  ne : l ≠ []
  zero : l.getD 0 [] = B.filter d
  up : ∀ n, n + 1 < l.length → l.getD (n + 1) [] = newOf B C (l.take (n + 1)).flatten
theorem built_start : Built B C d [B.filter d] := ⟨by simp, rfl, fun n h => by
  simp only [List.length_singleton] at h
  omega⟩
theorem Built.snoc (h : Built B C d l) : Built B C d (l ++ [newOf B C l.flatten]) := by
  refine ⟨fun z => absurd (List.append_eq_nil_iff.mp z).2 (by simp), ?_, fun n hn => ?_⟩
  · rw [getD_append_left (List.length_pos_iff.mpr h.ne)]
    exact h.zero
  · rw [List.length_append, List.length_singleton] at hn
    by_cases e : n + 1 < l.length
    · rw [getD_append_left e, List.take_append_of_le_length (by omega)]
      exact h.up n e
    · have e : n + 1 = l.length := by omega
      rw [e, List.getD_eq_getElem?_getD, List.getElem?_append_right (Nat.le_refl _), Nat.sub_self, List.getElem?_cons_zero, Option.getD_some, List.take_left']
      rfl
theorem built_rounds : ∀ (n : Nat) (l : List (List Nat)), Built B C d l → Built B C d (rounds B C n l)
  | 0, _, h => h
  | n + 1, l, h => by
    show Built B C d (if (newOf B C l.flatten).isEmpty = true then l else rounds B C n (l ++ [newOf B C l.flatten]))
    split
    · exact h
    · exact built_rounds n _ h.snoc
/-- all levels together: no state twice, each of B -/
structure Flat (B : List Nat) (l : List (List Nat)) : Prop where
  nd : l.flatten.Nodup
  sub : ∀ s ∈ l.flatten, s ∈ B
theorem Flat.snoc (hB : B.Nodup) (h : Flat B l) : Flat B (l ++ [newOf B C l.flatten]) := by
  have e : (l ++ [newOf B C l.flatten]).flatten = l.flatten ++ newOf B C l.flatten := by
    rw [List.flatten_append, List.flatten_cons, List.flatten_nil, List.append_nil]
  refine ⟨?_, fun s hs => ?_⟩
  · rw [e, List.nodup_append]
    refine ⟨h.nd, List.Pairwise.sublist List.filter_sublist hB, fun a ha b hb z => ?_⟩
    subst z
    have := (List.mem_filter.mp hb).2
    rw [Bool.and_eq_true, List.contains_iff_mem.mpr ha] at this
    exact nomatch this.1
  · rw [e] at hs
    rcases List.mem_append.mp hs with z | z
    · exact h.sub s z
    · exact (List.mem_filter.mp z).1
theorem flat_start (hB : B.Nodup) : Flat B [B.filter d] := by
  have e : [B.filter d].flatten = B.filter d := by rw [List.flatten_cons, List.flatten_nil, List.append_nil]
  refine ⟨?_, fun s hs => ?_⟩
  · rw [e]
    exact List.Pairwise.sublist List.filter_sublist hB
  · rw [e] at hs
    exact (List.mem_filter.mp hs).1
theorem flat_rounds (hB : B.Nodup) : ∀ (n : Nat) (l : List (List Nat)), Flat B l → Flat B (rounds B C n l)
  | 0, _, h => h
  | n + 1, l, h => by
    show Flat B (if (newOf B C l.flatten).isEmpty = true then l else rounds B C n (l ++ [newOf B C l.flatten]))
    split
    · exact h
    · exact flat_rounds hB n _ (h.snoc hB)
theorem nodup_full {l m : List Nat} (hl : l.Nodup) (hs : ∀ x ∈ l, x ∈ m) (hn : m.length ≤ l.length) : ∀ x ∈ m, x ∈ l := by
  intro x hx
  refine Classical.byContradiction fun z => ?_
  have h2 : (x :: l).Nodup := List.nodup_cons.mpr ⟨z, hl⟩
  have := List.Nodup.length_le_of_subset h2 (l₂ := m) fun y hy => by
    rcases List.mem_cons.mp hy with q | q
    · rw [q]; exact hx
    · exact hs y q
  simp only [List.length_cons] at this
  omega
/-- enough rounds: nothing is new -/
theorem rounds_sat (hB : B.Nodup) : ∀ (n : Nat) (l : List (List Nat)), Flat B l → B.length ≤ l.flatten.length + n → newOf B C (rounds B C n l).flatten = []
  | 0, l, h, hn => by
    have := nodup_full h.nd h.sub (by omega)
    refine List.filter_eq_nil_iff.mpr fun s hs => ?_
    show ¬ (!l.flatten.contains s && C l.flatten s) = true
    rw [List.contains_iff_mem.mpr (this s hs)]
    exact Bool.false_ne_true
  | n + 1, l, h, hn => by
    show newOf B C (if (newOf B C l.flatten).isEmpty = true then l else rounds B C n (l ++ [newOf B C l.flatten])).flatten = []
    by_cases e : (newOf B C l.flatten).isEmpty = true
    · rw [if_pos e]
      exact List.isEmpty_iff.mp e
    · rw [if_neg e]
      refine rounds_sat hB n _ (h.snoc hB) ?_
      have h1 : 0 < (newOf B C l.flatten).length := List.length_pos_iff.mpr fun z => e (List.isEmpty_iff.mpr z)
      rw [List.flatten_append, List.flatten_cons, List.flatten_nil, List.append_nil, List.length_append]
      omega
/-- more rounds than enough change nothing -/
theorem rounds_more (hB : B.Nodup) : ∀ (n m : Nat) (l : List (List Nat)), Flat B l → B.length ≤ l.flatten.length + n → n ≤ m → rounds B C m l = rounds B C n l
  | 0, m, l, h, hn, _ => by
    cases m with
    | zero => rfl
    | succ m =>
      have e : (newOf B C l.flatten).isEmpty = true := List.isEmpty_iff.mpr (rounds_sat (C := C) hB 0 l h hn)
      exact if_pos e
  | n + 1, m, l, h, hn, hm => by
    obtain ⟨j, rfl⟩ : ∃ j, m = j + 1 := ⟨m - 1, by omega⟩
    show (if (newOf B C l.flatten).isEmpty = true then l else rounds B C j (l ++ [newOf B C l.flatten])) = (if (newOf B C l.flatten).isEmpty = true then l else rounds B C n (l ++ [newOf B C l.flatten]))
    by_cases e : (newOf B C l.flatten).isEmpty = true
    · rw [if_pos e, if_pos e]
    · rw [if_neg e, if_neg e]
      refine rounds_more hB n j _ (h.snoc hB) ?_ (by omega)
      have h1 : 0 < (newOf B C l.flatten).length := List.length_pos_iff.mpr fun z => e (List.isEmpty_iff.mpr z)
      rw [List.flatten_append, List.flatten_cons, List.flatten_nil, List.append_nil, List.length_append]
      omega
/-- what is of a level up to n, by itself -/
def itn (B : List Nat) (C : List Nat → Nat → Bool) (d : Nat → Bool) : Nat → List Nat
  | 0 => B.filter d
  | n + 1 => B.filter fun s => (itn B C d n).contains s || C (itn B C d n) s
theorem itn_sub (n : Nat) : ∀ s ∈ itn B C d n, s ∈ B := by
  intro s hs
  cases n with
  | zero => exact (List.mem_filter.mp hs).1
  | succ n => exact (List.mem_filter.mp hs).1
theorem itn_up {n s : Nat} (h : s ∈ itn B C d n) : s ∈ itn B C d (n + 1) := List.mem_filter.mpr ⟨itn_sub n s h, by rw [List.contains_iff_mem.mpr h]; rfl⟩
theorem itn_le {n m s : Nat} (h : s ∈ itn B C d n) (hm : n ≤ m) : s ∈ itn B C d m := by
  induction hm with
  | refl => exact h
  | step _ ih => exact itn_up ih
abbrev MonoC (C : List Nat → Nat → Bool) : Prop := ∀ (a b : List Nat) (s : Nat), (∀ u ∈ a, u ∈ b) → C a s = true → C b s = true
theorem level_mem {l : List (List Nat)} {s : Nat} : s ∈ l.flatten ↔ ∃ m, level l s = some m := by
  constructor
  · intro h
    cases e : level l s with
    | none => exact absurd h (level_none.mp e)
    | some m => exact ⟨m, rfl⟩
  · rintro ⟨m, e⟩
    refine Classical.byContradiction fun z => ?_
    rw [level_none.mpr z] at e
    cases e
theorem level_take {l : List (List Nat)} {s n : Nat} : s ∈ (l.take (n + 1)).flatten ↔ ∃ m, m ≤ n ∧ level l s = some m := by
  by_cases hn : n < l.length
  · have := level_le (l := l) (u := s) hn
    rw [← List.contains_iff_mem, ← this]
    cases e : level l s with
    | none => simp
    | some m => simp
  · rw [List.take_of_length_le (by omega), level_mem]
    constructor
    · rintro ⟨m, e⟩
      exact ⟨m, by have := level_lt e; omega, e⟩
    · rintro ⟨m, _, e⟩
      exact ⟨m, e⟩
/-- the levels that rounds find are those that there are -/
theorem level_itn (hb : Built B C d l) (sat : newOf B C l.flatten = []) (mono : MonoC C) : ∀ (n s : Nat), (∃ m, m ≤ n ∧ level l s = some m) ↔ s ∈ itn B C d n
  | 0, s => by
    constructor
    · rintro ⟨m, hm, e⟩
      obtain rfl : m = 0 := by omega
      have := (level_some.mp e).2.1
      rw [hb.zero] at this
      exact this
    · intro h
      refine ⟨0, Nat.le_refl _, level_some.mpr ⟨List.length_pos_iff.mpr hb.ne, ?_, fun j hj => absurd hj (Nat.not_lt_zero _)⟩⟩
      rw [hb.zero]
      exact h
  | n + 1, s => by
    have ih := level_itn hb sat mono n
    have hmem : ∀ u, u ∈ (l.take (n + 1)).flatten ↔ u ∈ itn B C d n := fun u => level_take.trans (ih u)
    constructor
    · rintro ⟨m, hm, e⟩
      by_cases h : m ≤ n
      · exact itn_up ((ih s).mp ⟨m, h, e⟩)
      · obtain rfl : m = n + 1 := by omega
        obtain ⟨h1, h2, _⟩ := level_some.mp e
        rw [hb.up n h1] at h2
        obtain ⟨h3, h4⟩ := List.mem_filter.mp h2
        rw [Bool.and_eq_true] at h4
        exact List.mem_filter.mpr ⟨h3, by rw [mono _ _ s (fun u hu => (hmem u).mp hu) h4.2, Bool.or_true]⟩
    · intro h
      obtain ⟨h1, h2⟩ := List.mem_filter.mp h
      rw [Bool.or_eq_true, List.contains_iff_mem] at h2
      rcases h2 with h2 | h2
      · obtain ⟨m, hm, e⟩ := (ih s).mpr h2
        exact ⟨m, by omega, e⟩
      · have hC : C (l.take (n + 1)).flatten s = true := mono _ _ s (fun u hu => (hmem u).mpr hu) h2
        by_cases hn : n + 1 < l.length
        · by_cases hs : s ∈ (l.take (n + 1)).flatten
          · obtain ⟨m, hm, e⟩ := level_take.mp hs
            exact ⟨m, by omega, e⟩
          · have : s ∈ l.getD (n + 1) [] := by
              rw [hb.up n hn]
              refine List.mem_filter.mpr ⟨h1, ?_⟩
              rw [hC, Bool.and_true, Bool.not_eq_true']
              cases q : (l.take (n + 1)).flatten.contains s with
              | false => rfl
              | true => exact absurd (List.contains_iff_mem.mp q) hs
            have : s ∈ (l.take (n + 1 + 1)).flatten := (mem_take_flatten (by omega)).mpr ⟨n + 1, by omega, this⟩
            exact level_take.mp this
        · rw [List.take_of_length_le (by omega)] at hC
          have hs : s ∈ l.flatten := by
            refine Classical.byContradiction fun z => ?_
            have : s ∈ newOf B C l.flatten := List.mem_filter.mpr ⟨h1, by
              rw [hC, Bool.and_true, Bool.not_eq_true']
              cases q : l.flatten.contains s with
              | false => rfl
              | true => exact absurd (List.contains_iff_mem.mp q) z⟩
            rw [sat] at this
            exact absurd this List.not_mem_nil
          obtain ⟨m, e⟩ := level_mem.mp hs
          exact ⟨m, by have := level_lt e; omega, e⟩
end
section
variable {t : Task}
theorem mono_sure : MonoC (cSure t) := fun a b s h q => by
  obtain ⟨k, hk, q⟩ := List.any_eq_true.mp q
  refine List.any_eq_true.mpr ⟨k, hk, List.all_eq_true.mpr fun u hu => ?_⟩
  exact List.contains_iff_mem.mpr (h u (List.contains_iff_mem.mp (List.all_eq_true.mp q u hu)))
theorem mono_hope {x : List Nat} : MonoC (cHope t x) := fun a b s h q => by
  obtain ⟨k, hk, q⟩ := List.any_eq_true.mp q
  rw [Bool.and_eq_true] at q
  obtain ⟨u, hu, q2⟩ := List.any_eq_true.mp q.2
  refine List.any_eq_true.mpr ⟨k, hk, ?_⟩
  rw [q.1, Bool.true_and]
  exact List.any_eq_true.mpr ⟨u, hu, List.contains_iff_mem.mpr (h u (List.contains_iff_mem.mp q2))⟩
theorem mono_by {f : Rule} : MonoC (cBy t f) := fun a b s h q => by
  unfold cBy at q ⊢
  cases e : f s with
  | none => rw [e] at q; cases q
  | some k =>
    rw [e] at q
    simp only [Bool.and_eq_true] at q ⊢
    exact ⟨q.1, List.all_eq_true.mpr fun u hu => List.contains_iff_mem.mpr (h u (List.contains_iff_mem.mp (List.all_eq_true.mp q.2 u hu)))⟩
theorem states_nodup : t.states.Nodup := List.nodup_range
theorem states_len : t.states.length = sz t := List.length_range

/-! ### hope -/
/-- the set that is left -/
theorem prune_end : ∀ (n : Nat) (x : List Nat), x.length < n → Rising x → ∃ X, t.prune n x = t.hopes X (sz t) [X.filter t.done] ∧ Rising X ∧ (∀ s ∈ X, s ∈ x) ∧ ∀ s ∈ X, s ∈ (t.hopes X (sz t) [X.filter t.done]).flatten
  | 0, _, h, _ => absurd h (Nat.not_lt_zero _)
  | n + 1, x, h, hr => by
    show ∃ X, (if (x.filter (t.hopes x (sz t) [x.filter t.done]).flatten.contains).length = x.length then t.hopes x (sz t) [x.filter t.done] else t.prune n (x.filter (t.hopes x (sz t) [x.filter t.done]).flatten.contains)) = _ ∧ _
    by_cases e : (x.filter (t.hopes x (sz t) [x.filter t.done]).flatten.contains).length = x.length
    · rw [if_pos e]
      refine ⟨x, rfl, hr, fun s hs => hs, fun s hs => ?_⟩
      exact List.contains_iff_mem.mp (List.length_filter_eq_length_iff.mp e s hs)
    · rw [if_neg e]
      have hl := List.length_filter_le (t.hopes x (sz t) [x.filter t.done]).flatten.contains x
      obtain ⟨X, h1, h2, h3, h4⟩ := prune_end n (x.filter (t.hopes x (sz t) [x.filter t.done]).flatten.contains) (by omega) (rising_filter _ hr)
      exact ⟨X, h1, h2, fun s hs => (List.mem_filter.mp (h3 s hs)).1, h4⟩
/-- the specification's hope: its set, and its levels within -/
structure HopeIs (t : Task) (X : List Nat) : Prop where
  eq : t.hope = t.hopes X (sz t) [X.filter t.done]
  ris : Rising X
  lt : ∀ s ∈ X, s < sz t
  mem : ∀ s, s ∈ t.hope.flatten ↔ s ∈ X
theorem hope_is (t : Task) : ∃ X, HopeIs t X := by
  obtain ⟨X, h1, h2, h3, h4⟩ := prune_end (t := t) (sz t + 1) t.states (by rw [states_len]; omega) (rising_range _)
  have hX : t.hope = t.hopes X (sz t) [X.filter t.done] := h1
  refine ⟨X, hX, h2, fun s hs => mem_states.mp (h3 s hs), fun s => ⟨fun hs => ?_, fun hs => by rw [hX]; exact h4 s hs⟩⟩
  rw [hX, hopes_rounds] at hs
  exact (flat_rounds (rising_nodup h2) _ _ (flat_start (rising_nodup h2))).sub s hs
theorem HopeIs.built {X : List Nat} (h : HopeIs t X) : Built X (cHope t X) t.done t.hope := by
  rw [h.eq, hopes_rounds]
  exact built_rounds _ _ built_start
theorem hope_up {s n : Nat} (h : level t.hope s = some (n + 1)) : s < sz t ∧ t.done s = false ∧ ((t.cans s).find? fun k => (t.next s k).all t.hope.flatten.contains && (t.next s k).any fun u => match level t.hope u with
    | some m => decide (m ≤ n)
    | none => false).isSome = true := by
  obtain ⟨X, hX⟩ := hope_is t
  obtain ⟨h1, h2, h3⟩ := level_some.mp h
  have hsX : s ∈ X := (hX.mem s).mp (level_mem.mpr ⟨_, h⟩)
  refine ⟨hX.lt s hsX, ?_, ?_⟩
  · have := h3 0 (Nat.zero_lt_succ _)
    rw [hX.built.zero, List.mem_filter] at this
    cases q : t.done s with
    | false => rfl
    | true => exact absurd ⟨hsX, q⟩ this
  · rw [hX.built.up n h1] at h2
    obtain ⟨_, h4⟩ := List.mem_filter.mp h2
    rw [Bool.and_eq_true] at h4
    have e : (fun k => (t.next s k).all t.hope.flatten.contains && (t.next s k).any fun u => match level t.hope u with
        | some m => decide (m ≤ n)
        | none => false) = fun k => (t.next s k).all X.contains && (t.next s k).any (t.hope.take (n + 1)).flatten.contains := by
      funext k
      have e1 : t.hope.flatten.contains = X.contains := by
        funext u
        rw [Bool.eq_iff_iff, List.contains_iff_mem, List.contains_iff_mem]
        exact hX.mem u
      rw [e1]
      congr 2
      funext u
      exact level_le (by omega)
    rw [e, ← cans_any]
    exact h4.2
theorem hopeAct_some {s k : Nat} (h : t.hopeAct t.hope s = some k) : t.done s = false ∧ t.can s k = true ∧ s < sz t := by
  unfold Task.hopeAct at h
  cases e : level t.hope s with
  | none => rw [e] at h; cases h
  | some n =>
    rw [e] at h
    cases n with
    | zero => cases h
    | succ n =>
      obtain ⟨h1, h2, _⟩ := hope_up e
      exact ⟨h2, (List.mem_filter.mp (List.mem_of_find?_eq_some h)).2, h1⟩
theorem good_hope : GoodRule t (t.hopeAct t.hope) := ⟨fun _ _ h => ⟨(hopeAct_some h).1, (hopeAct_some h).2.1⟩⟩
end
end Sh
set_option Elab.async false
namespace Sh
open Pn07
theorem Reach.trans {nx : Nat → List Nat} {a b c : Nat} (h : Reach nx a b) (q : Reach nx b c) : Reach nx a c := by
  induction q with
  | start => exact h
  | step _ m ih => exact .step ih m
theorem Reach.head {nx : Nat → List Nat} {a b c : Nat} (m : b ∈ nx a) (q : Reach nx b c) : Reach nx a c := (Reach.step .start m).trans q
theorem Reach.back {nx : Nat → List Nat} {x v N : Nat} {p : Nat → Prop} (hx : x < N) (hc : ∀ u, u < N → ∀ v ∈ nx u, v < N) (hb : ∀ u, u < N → ∀ v ∈ nx u, p v → p u) (h : Reach nx x v) (q : p v) : p x := by
  induction h with
  | start => exact q
  | step r m ih => exact ih (hb _ (r.lt hx hc) _ m q)
section
variable {t : Task} {f : Rule}
/-- one can come to what is wanted from here -/
def CanEnd (t : Task) (f : Rule) (x : Nat) : Prop := ∃ v, Reach (nxS t f) x v ∧ t.done v = true
theorem back_all (w : Wf t) : ∀ (n : Nat) (l : List Nat), sz t ≤ l.length + n → Rising l → (∀ x ∈ l, x < sz t ∧ CanEnd t f x) → (∀ x, x < sz t → t.done x = true → x ∈ l) →
    ∀ x, x ∈ t.back f n l ↔ x < sz t ∧ CanEnd t f x
  | 0, l, hl, hr, hi, hd => by
    intro x
    refine ⟨hi x, fun h => ?_⟩
    have hfull := nodup_full (rising_nodup hr) (fun y hy => List.mem_range.mpr (hi y hy).1) (m := List.range (sz t)) (by rw [List.length_range]; omega)
    exact hfull x (List.mem_range.mpr h.1)
  | n + 1, l, hl, hr, hi, hd => by
    let m := t.states.filter fun s => l.contains s || (match f s with
      | some k => t.can s k && (t.next s k).any l.contains
      | none => false)
    have hm : Rising m := rising_filter _ (rising_range _)
    have mem : ∀ x, x ∈ m ↔ x < sz t ∧ (x ∈ l ∨ ∃ k, f x = some k ∧ t.can x k = true ∧ ∃ v ∈ t.next x k, v ∈ l) := fun x => by
      show x ∈ t.states.filter _ ↔ _
      rw [List.mem_filter, mem_states, Bool.or_eq_true, List.contains_iff_mem]
      refine and_congr_right fun _ => or_congr_right ?_
      cases e : f x with
      | none => simp
      | some k =>
        simp only [Bool.and_eq_true, List.any_eq_true, List.contains_iff_mem]
        constructor
        · rintro ⟨h1, v, h2, h3⟩
          exact ⟨k, rfl, h1, v, h2, h3⟩
        · rintro ⟨k', e', h1, v, h2, h3⟩
          cases e'
          exact ⟨h1, v, h2, h3⟩
    have hsub : ∀ x ∈ l, x ∈ m := fun x hx => (mem x).mpr ⟨(hi x hx).1, .inl hx⟩
    have hmi : ∀ x ∈ m, x < sz t ∧ CanEnd t f x := fun x hx => by
      obtain ⟨h1, h2 | ⟨k, h2, h3, v, h4, h5⟩⟩ := (mem x).mp hx
      · exact hi x h2
      · refine ⟨h1, ?_⟩
        cases e : t.done x with
        | true => exact ⟨x, .start, e⟩
        | false =>
          obtain ⟨_, z, hz, hd⟩ := hi v h5
          refine ⟨z, .head ?_ hz, hd⟩
          unfold nxS
          rw [e, h2]
          simp [h3, h4]
    intro x
    show x ∈ (if m = l then l else t.back f n m) ↔ _
    by_cases e : m = l
    · rw [if_pos e]
      refine ⟨hi x, fun ⟨hx, v, hv, hdv⟩ => ?_⟩
      have hvl : v ∈ l := hd v (hv.lt hx (nxS_lt w)) hdv
      refine Reach.back (p := fun x => x ∈ l) hx (nxS_lt w) (fun u hu y hy q => ?_) hv hvl
      rw [← e]
      refine (mem u).mpr ⟨hu, .inr ?_⟩
      unfold nxS at hy
      split at hy
      · exact absurd hy List.not_mem_nil
      · split at hy
        · rename_i k hk
          split at hy
          · rename_i hc
            exact ⟨k, hk, hc, y, hy, q⟩
          · exact absurd hy List.not_mem_nil
        · exact absurd hy List.not_mem_nil
    · rw [if_neg e]
      refine back_all w n m ?_ hm hmi (fun x hx q => hsub x (hd x hx q)) x
      rcases rising_sub hr hm hsub with q | q
      · exact absurd q.symm e
      · omega
theorem back_is (w : Wf t) (x : Nat) : x ∈ t.back f (2 ^ t.facts) (t.states.filter t.done) ↔ x < sz t ∧ CanEnd t f x :=
  back_all w _ _ (Nat.le_add_left _ _) (rising_filter _ (rising_range _)) (fun x hx => by
    obtain ⟨h1, h2⟩ := List.mem_filter.mp hx
    exact ⟨mem_states.mp h1, x, .start, h2⟩) (fun x hx q => List.mem_filter.mpr ⟨mem_states.mpr hx, q⟩) x
/-- by the rule as wanted in at most n steps -/
abbrev Within (t : Task) (f : Rule) (n : Nat) : List Nat := itn t.states (cBy t f) t.done n
theorem within_zero {s : Nat} : s ∈ Within t f 0 ↔ s < sz t ∧ t.done s = true := List.mem_filter.trans (and_congr_left fun _ => mem_states)
theorem within_succ {s n : Nat} : s ∈ Within t f (n + 1) ↔ s < sz t ∧ (s ∈ Within t f n ∨ ∃ k, f s = some k ∧ t.can s k = true ∧ ∀ v ∈ t.next s k, v ∈ Within t f n) := by
  show s ∈ t.states.filter _ ↔ _
  rw [List.mem_filter, mem_states, Bool.or_eq_true, List.contains_iff_mem]
  refine and_congr_right fun _ => or_congr_right ?_
  unfold cBy
  cases e : f s with
  | none => simp
  | some k =>
    simp only [Bool.and_eq_true, List.all_eq_true, List.contains_iff_mem]
    constructor
    · rintro ⟨h1, h2⟩
      exact ⟨k, rfl, h1, h2⟩
    · rintro ⟨k', e', h1, h2⟩
      cases e'
      exact ⟨h1, h2⟩
theorem worst_le (s n : Nat) : (∃ m, m ≤ n ∧ t.worst f s = some m) ↔ s ∈ Within t f n := by
  unfold Task.worst
  rw [by_rounds]
  refine level_itn (built_rounds _ _ built_start) ?_ mono_by n s
  exact rounds_sat states_nodup _ _ (flat_start states_nodup) (by rw [states_len]; exact Nat.le_add_left _ _)
theorem worst_some {s n : Nat} : t.worst f s = some n ↔ s ∈ Within t f n ∧ ∀ m, m < n → s ∉ Within t f m := by
  constructor
  · intro h
    refine ⟨(worst_le s n).mp ⟨n, Nat.le_refl _, h⟩, fun m hm z => ?_⟩
    obtain ⟨j, hj, e⟩ := (worst_le s m).mpr z
    rw [h] at e
    cases e
    omega
  · rintro ⟨h1, h2⟩
    obtain ⟨j, hj, e⟩ := (worst_le s n).mpr h1
    by_cases z : j = n
    · rw [← z]; exact e
    · exact absurd ((worst_le s j).mp ⟨j, Nat.le_refl _, e⟩) (h2 j (by omega))
theorem worst_none {s : Nat} : t.worst f s = none ↔ ∀ n, s ∉ Within t f n := by
  constructor
  · intro h n z
    obtain ⟨j, _, e⟩ := (worst_le s n).mpr z
    rw [h] at e
    cases e
  · intro h
    cases e : t.worst f s with
    | none => rfl
    | some n => exact absurd ((worst_le s n).mp ⟨n, Nat.le_refl _, e⟩) (h n)
end
end Sh
set_option Elab.async false
namespace Sh
open Pn07
/-! ### ways: for each state, by each act's number, where it leads to -/
abbrev Here := List (Nat × List Nat)
def srv (m : Bool) (l : List Nat) (U : Nat → Bool) : Bool := if m = true then l.all U else l.any U
theorem srv_congr {m : Bool} {l : List Nat} {U U' : Nat → Bool} (h : ∀ u, U u = U' u) : srv m l U = srv m l U' := by
  rw [show U = U' from funext h]
theorem srv_mono {m : Bool} {l : List Nat} {U U' : Nat → Bool} (h : ∀ u, U u = true → U' u = true) (q : srv m l U = true) : srv m l U' = true := by
  unfold srv at q ⊢
  cases m with
  | true =>
    simp only [if_true] at q ⊢
    exact List.all_eq_true.mpr fun u hu => h u (List.all_eq_true.mp q u hu)
  | false =>
    simp only [Bool.false_eq_true, if_false] at q ⊢
    obtain ⟨u, hu, q⟩ := List.any_eq_true.mp q
    exact List.any_eq_true.mpr ⟨u, hu, h u q⟩
theorem srv_none {m : Bool} {l : List Nat} (h : 1 ≤ l.length) : srv m l ([] : List Nat).contains = false := by
  cases l with
  | nil => exact absurd h (by decide)
  | cons a r => cases m <;> simp [srv]
def lowW (m : Bool) (w : Here) (U : Nat → Bool) : Option Nat := (w.find? fun x => srv m x.2 U).map (·.1)
theorem lowW_isSome (m : Bool) (w : Here) (U : Nat → Bool) : (lowW m w U).isSome = w.any fun x => srv m x.2 U := by
  unfold lowW
  rw [Option.isSome_map]
  cases e : w.find? fun x => srv m x.2 U with
  | none =>
    rw [List.find?_eq_none] at e
    exact (List.any_eq_false.mpr e).symm
  | some x => exact (List.any_eq_true.mpr ⟨x, List.mem_of_find?_eq_some e, List.find?_some e⟩).symm
def cW (m : Bool) (here : Nat → Here) : List Nat → Nat → Bool := fun all s => (here s).any fun x => srv m x.2 all.contains
theorem mono_W {m : Bool} {here : Nat → Here} : MonoC (cW m here) := fun a b s h q => by
  obtain ⟨x, hx, q⟩ := List.any_eq_true.mp q
  exact List.any_eq_true.mpr ⟨x, hx, srv_mono (fun u hu => List.contains_iff_mem.mpr (h u (List.contains_iff_mem.mp hu))) q⟩
def lvW (m : Bool) (B : List Nat) (here : Nat → Here) (g : Nat) : List (List Nat) := rounds B (cW m here) B.length [B.filter (doneW g)]
def aboveW (m : Bool) (B : List Nat) (here : Nat → Here) (kvs : List (Nat × Nat)) (top : Nat) : List Nat := B.filter fun s => (kvs.lookup s).isNone && (lowW m (here s) (upTo kvs top)).isSome
structure GoodW (B : List Nat) (here : Nat → Here) : Prop where
  nd : B.Nodup
  few : B.length ≤ 16
  kn : ∀ s ∈ B, ((here s).map (·.1)).Nodup
  ks : ∀ s ∈ B, (here s).length ≤ 6
  least : ∀ s ∈ B, ∀ x ∈ here s, 1 ≤ x.2.length
  most : ∀ s ∈ B, ∀ x ∈ here s, x.2.length ≤ 3
  cl : ∀ s ∈ B, ∀ x ∈ here s, ∀ v ∈ x.2, v ∈ B
section
variable {m : Bool} {B : List Nat} {here : Nat → Here} {g : Nat}
theorem above_newW {l : List (List Nat)} {top : Nat} (h : l.length = top + 1) : aboveW m B here (prs l) top = newOf B (cW m here) l.flatten := by
  unfold aboveW newOf
  refine List.filter_congr fun s _ => ?_
  have e1 : ((prs l).lookup s).isNone = !l.flatten.contains s := by
    rw [prs_lookup, ← level_isSome]
    cases level l s <;> rfl
  rw [e1, lowW_isSome]
  congr 1
  unfold cW
  congr 1
  funext x
  exact srv_congr fun u => upTo_all h
theorem lvW_built : Built B (cW m here) (doneW g) (lvW m B here g) := built_rounds _ _ built_start
theorem lvW_flat (hB : B.Nodup) : Flat B (lvW m B here g) := flat_rounds hB _ _ (flat_start hB)
theorem lvW_sat (hB : B.Nodup) : newOf B (cW m here) (lvW m B here g).flatten = [] := rounds_sat hB _ _ (flat_start hB) (Nat.le_add_left _ _)
theorem lvW_itn (hB : B.Nodup) (n s : Nat) : (∃ k, k ≤ n ∧ level (lvW m B here g) s = some k) ↔ s ∈ itn B (cW m here) (doneW g) n := level_itn lvW_built (lvW_sat hB) mono_W n s
theorem prs_len (l : List (List Nat)) : (prs l).length = l.flatten.length := by
  rw [← prs_keys l 0, List.length_map]
/-- between two turns of levels_of's loop -/
structure LvInv (m : Bool) (B : List Nat) (here : Nat → Here) (g : Nat) (l : List (List Nat)) (found : List Nat) : Prop where
  flat : Flat B (l ++ [found])
  go : found ≠ [] → ∃ n, B.length ≤ (l ++ [found]).flatten.length + n ∧ rounds B (cW m here) n (l ++ [found]) = lvW m B here g
  stop : found = [] → prs l = prs (lvW m B here g)
theorem LvInv.start (G : GoodW B here) : LvInv m B here g [] (B.filter (doneW g)) := by
  refine ⟨flat_start G.nd, fun _ => ⟨B.length, Nat.le_add_left _ _, rfl⟩, fun h => ?_⟩
  have hn : newOf B (cW m here) [] = [] := by
    refine List.filter_eq_nil_iff.mpr fun s hs => ?_
    have : cW m here [] s = false := List.any_eq_false.mpr fun x hx => by
      rw [srv_none (G.least s hs x hx)]
      exact Bool.false_ne_true
    rw [this, Bool.and_false]
    exact Bool.false_ne_true
  have e : lvW m B here g = [[]] := by
    unfold lvW
    rw [h]
    cases B.length with
    | zero => rfl
    | succ n =>
      show (if (newOf B (cW m here) []).isEmpty = true then _ else _) = _
      rw [hn]
      rfl
  rw [e]
  rfl
theorem flatten_snoc (l : List (List Nat)) (x : List Nat) : (l ++ [x]).flatten = l.flatten ++ x := by
  rw [List.flatten_append, List.flatten_cons, List.flatten_nil, List.append_nil]
theorem LvInv.next {l : List (List Nat)} {found : List Nat} (G : GoodW B here) (h : LvInv m B here g l found) (hf : found ≠ []) : LvInv m B here g (l ++ [found]) (newOf B (cW m here) (l ++ [found]).flatten) := by
  obtain ⟨n, hn, e⟩ := h.go hf
  refine ⟨h.flat.snoc G.nd, fun hz => ?_, fun hz => ?_⟩
  · cases n with
    | zero => exact absurd (rounds_sat (C := cW m here) G.nd 0 _ h.flat hn) hz
    | succ n =>
      have hne : ¬ (newOf B (cW m here) (l ++ [found]).flatten).isEmpty = true := fun z => hz (List.isEmpty_iff.mp z)
      have e : (if (newOf B (cW m here) (l ++ [found]).flatten).isEmpty = true then (l ++ [found]) else rounds B (cW m here) n ((l ++ [found]) ++ [newOf B (cW m here) (l ++ [found]).flatten])) = lvW m B here g := e
      rw [if_neg hne] at e
      refine ⟨n, ?_, e⟩
      have h1 : 0 < (newOf B (cW m here) (l ++ [found]).flatten).length := List.length_pos_iff.mpr hz
      rw [flatten_snoc (l ++ [found]), List.length_append]
      omega
  · cases n with
    | zero => exact congrArg prs e
    | succ n =>
      have e : (if (newOf B (cW m here) (l ++ [found]).flatten).isEmpty = true then (l ++ [found]) else rounds B (cW m here) n ((l ++ [found]) ++ [newOf B (cW m here) (l ++ [found]).flatten])) = lvW m B here g := e
      rw [hz] at e
      exact congrArg prs e
/-- u is of a level up to n, in the program's words -/
theorem upTo_level {l : List (List Nat)} {n u : Nat} : upTo (prs l) n u = (match level l u with
    | some k => decide (k ≤ n)
    | none => false) := by
  unfold upTo
  rw [prs_lookup]
  all_goals (cases level l u <;> rfl)
theorem upTo_take {l : List (List Nat)} {n u : Nat} (hn : n < l.length) : upTo (prs l) n u = (l.take (n + 1)).flatten.contains u := by
  rw [upTo_level]
  exact level_le hn
def ruleW (m : Bool) (here : Nat → Here) (kvs : List (Nat × Nat)) (s : Nat) : Option Nat := match kvs.lookup s with
  | some (n + 1) => lowW m (here s) (upTo kvs n)
  | _ => none
theorem rule_has {s n : Nat} (h : level (lvW m B here g) s = some (n + 1)) : (lowW m (here s) (upTo (prs (lvW m B here g)) n)).isSome = true := by
  obtain ⟨h1, h2, _⟩ := level_some.mp h
  rw [lvW_built.up n h1] at h2
  obtain ⟨_, h3⟩ := List.mem_filter.mp h2
  rw [Bool.and_eq_true] at h3
  rw [lowW_isSome]
  have e : (fun x : Nat × List Nat => srv m x.2 (upTo (prs (lvW m B here g)) n)) = fun x => srv m x.2 ((lvW m B here g).take (n + 1)).flatten.contains := by
    funext x
    exact srv_congr fun u => upTo_take (by omega)
  rw [e]
  exact h3.2
theorem level_in (hB : B.Nodup) {s n : Nat} (h : level (lvW m B here g) s = some n) : s ∈ B := (lvW_flat hB).sub s (level_mem.mpr ⟨n, h⟩)
/-- levels hang on the members alone -/
theorem level_same {B B' : List Nat} {C C' : List Nat → Nat → Bool} {d : Nat → Bool} {l l' : List (List Nat)} (hb : Built B C d l) (sat : newOf B C l.flatten = []) (mo : MonoC C) (hb' : Built B' C' d l') (sat' : newOf B' C' l'.flatten = []) (mo' : MonoC C')
    (hB : ∀ s, s ∈ B ↔ s ∈ B') (hC : ∀ (a b : List Nat) (s : Nat), s ∈ B → d s = false → (∀ u, u ∈ a ↔ u ∈ b) → C a s = C' b s) (s : Nat) : level l s = level l' s := by
  have hi : ∀ n s, s ∈ itn B C d n ↔ s ∈ itn B' C' d n := by
    intro n
    induction n with
    | zero =>
      intro s
      show s ∈ B.filter d ↔ s ∈ B'.filter d
      rw [List.mem_filter, List.mem_filter, hB]
    | succ n ih =>
      intro s
      show s ∈ B.filter _ ↔ s ∈ B'.filter _
      rw [List.mem_filter, List.mem_filter, hB s]
      refine and_congr_right fun hs => ?_
      rw [Bool.or_eq_true, Bool.or_eq_true, List.contains_iff_mem, List.contains_iff_mem, ih s]
      cases hd : d s with
      | true =>
        have : s ∈ itn B' C' d n := itn_le (n := 0) (List.mem_filter.mpr ⟨hs, hd⟩) (Nat.zero_le _)
        exact ⟨fun _ => .inl this, fun _ => .inl this⟩
      | false => rw [hC _ _ s ((hB s).mpr hs) hd ih]
  have hl : ∀ n s, (∃ k, k ≤ n ∧ level l s = some k) ↔ ∃ k, k ≤ n ∧ level l' s = some k := fun n s => (level_itn hb sat mo n s).trans ((hi n s).trans (level_itn hb' sat' mo' n s).symm)
  cases e : level l s with
  | none =>
    cases e' : level l' s with
    | none => rfl
    | some k =>
      obtain ⟨j, _, z⟩ := (hl k s).mpr ⟨k, Nat.le_refl _, e'⟩
      rw [e] at z
      cases z
  | some k =>
    obtain ⟨j, hj, z⟩ := (hl k s).mp ⟨k, Nat.le_refl _, e⟩
    obtain ⟨i, hi', z'⟩ := (hl j s).mpr ⟨j, Nat.le_refl _, z⟩
    rw [e] at z'
    cases z'
    have : j = k := by omega
    rw [z, this]
theorem nodup_same_len {l l' : List Nat} (h : l.Nodup) (h' : l'.Nodup) (e : ∀ s, s ∈ l ↔ s ∈ l') : l.length = l'.length := by
  have h1 := List.Nodup.length_le_of_subset h (l₂ := l') fun s hs => (e s).mp hs
  have h2 := List.Nodup.length_le_of_subset h' (l₂ := l) fun s hs => (e s).mpr hs
  omega
end
/-! ### the ways of a task -/
def hereT (t : Task) (s : Nat) : Here := (t.cans s).map fun k => (k, t.next s k)
section
variable {t : Task}
theorem cans_nodup (s : Nat) : (t.cans s).Nodup := List.Pairwise.sublist List.filter_sublist List.nodup_range
theorem hereT_keys (s : Nat) : (hereT t s).map (·.1) = t.cans s := by
  unfold hereT
  rw [List.map_map]
  exact List.map_id' _
theorem act_mem {k : Nat} (h : k < t.acts.length) : t.act k ∈ t.acts := by
  unfold Task.act
  rw [List.getD_eq_getElem?_getD, List.getElem?_eq_getElem h, Option.getD_some]
  exact List.getElem_mem h
theorem mem_hereT {s : Nat} {x : Nat × List Nat} (h : x ∈ hereT t s) : x.1 < t.acts.length ∧ t.can s x.1 = true ∧ x.2 = t.next s x.1 := by
  obtain ⟨k, hk, rfl⟩ := List.mem_map.mp h
  obtain ⟨h1, h2⟩ := List.mem_filter.mp hk
  exact ⟨List.mem_range.mp h1, h2, rfl⟩
theorem good_T (w : Wf t) : GoodW t.states (hereT t) := by
  refine ⟨states_nodup, ?_, fun s _ => ?_, fun s _ => ?_, fun s _ x hx => ?_, fun s _ x hx => ?_, fun s hs x hx v hv => ?_⟩
  · rw [states_len]
    exact Nat.pow_le_pow_right (n := 2) (by decide) w.f4
  · rw [hereT_keys]
    exact cans_nodup s
  · unfold hereT Task.cans
    rw [List.length_map]
    have := List.length_filter_le (t.can s) (List.range t.acts.length)
    rw [List.length_range] at this
    have := w.few
    omega
  · obtain ⟨h1, _, h3⟩ := mem_hereT hx
    rw [h3]
    unfold Task.next
    rw [List.length_map]
    exact (w.acts _ (act_mem h1)).least
  · obtain ⟨h1, _, h3⟩ := mem_hereT hx
    rw [h3]
    unfold Task.next
    rw [List.length_map]
    exact (w.acts _ (act_mem h1)).most
  · obtain ⟨h1, _, h3⟩ := mem_hereT hx
    rw [h3] at hv
    exact mem_states.mpr (next_lt w (mem_states.mp hs) h1 v hv)
theorem sure_W : lvW true t.states (hereT t) t.goal = t.sure := by
  unfold lvW Task.sure
  rw [levels_rounds, states_len]
  have e : cW true (hereT t) = cSure t := by
    funext all s
    unfold cW cSure hereT
    rw [List.any_map]
    rfl
  rw [e]
  rfl
theorem lowW_map (m : Bool) (l : List Nat) (f : Nat → List Nat) (U : Nat → Bool) : lowW m (l.map fun k => (k, f k)) U = l.find? fun k => srv m (f k) U := by
  unfold lowW
  rw [List.find?_map, Option.map_map]
  have : ((·.1) ∘ fun k => (k, f k)) = (id : Nat → Nat) := rfl
  rw [this, Option.map_id]
  rfl
theorem rule_sureW (s : Nat) : ruleW true (hereT t) (prs t.sure) s = t.sureAct t.sure s := by
  unfold ruleW Task.sureAct
  rw [prs_lookup]
  cases level t.sure s with
  | none => rfl
  | some n =>
    cases n with
    | zero => rfl
    | succ n =>
      show lowW true ((t.cans s).map fun k => (k, t.next s k)) _ = _
      rw [lowW_map]
      congr 1
      funext k
      show (t.next s k).all (upTo (prs t.sure) n) = _
      congr 1
      funext u
      exact upTo_level
/-! ### by a rule -/
def ruledH (here : Nat → Here) (rl : List (Nat × Nat)) (s : Nat) : Here := match rl.lookup s with
  | some k => (match (here s).lookup k with
    | some us => [(k, us)]
    | none => [])
  | none => []
def nxW (here : Nat → Here) (u : Nat) : List Nat := (here u).flatMap (·.2)
theorem lookup_in {w : Here} {k : Nat} {us : List Nat} (h : w.lookup k = some us) : (k, us) ∈ w := by
  induction w with
  | nil => cases h
  | cons p r ih =>
    obtain ⟨a, b⟩ := p
    rw [List.lookup_cons] at h
    by_cases e : k = a
    · subst e
      simp at h
      rw [h]
      exact List.mem_cons_self ..
    · have : (k == a) = false := by simp [e]
      rw [this] at h
      exact List.mem_cons_of_mem _ (ih h)
theorem in_lookup {w : Here} {k : Nat} {us : List Nat} (hn : (w.map (·.1)).Nodup) (h : (k, us) ∈ w) : w.lookup k = some us := by
  induction w with
  | nil => exact absurd h List.not_mem_nil
  | cons p r ih =>
    obtain ⟨a, b⟩ := p
    obtain ⟨h1, h2⟩ := List.nodup_cons.mp (show (a :: r.map (·.1)).Nodup from hn)
    rw [List.lookup_cons]
    rcases List.mem_cons.mp h with z | z
    · cases z
      simp
    · have : (k == a) = false := by
        simp
        intro e
        subst e
        exact h1 (List.mem_map.mpr ⟨_, z, rfl⟩)
      rw [this]
      exact ih h2 z
theorem lookup_noneH {w : Here} {k : Nat} : w.lookup k = none ↔ k ∉ w.map (·.1) := by
  induction w with
  | nil => simp
  | cons p r ih =>
    obtain ⟨x, y⟩ := p
    simp only [List.lookup_cons, List.map_cons, List.mem_cons]
    by_cases e : k = x
    · simp [e]
    · have : (k == x) = false := by simp [e]
      rw [this]
      simp [e, ih]
theorem ruledH_mem {here : Nat → Here} {rl : List (Nat × Nat)} {s : Nat} {x : Nat × List Nat} (h : x ∈ ruledH here rl s) : x ∈ here s := by
  unfold ruledH at h
  cases e : rl.lookup s with
  | none => rw [e] at h; exact absurd h List.not_mem_nil
  | some k =>
    rw [e] at h
    simp only at h
    cases e2 : (here s).lookup k with
    | none => rw [e2] at h; exact absurd h List.not_mem_nil
    | some us =>
      rw [e2] at h
      rw [List.mem_singleton.mp h]
      exact lookup_in e2
theorem ruledH_len (here : Nat → Here) (rl : List (Nat × Nat)) (s : Nat) : (ruledH here rl s).length ≤ 1 := by
  unfold ruledH
  cases rl.lookup s with
  | none => exact Nat.zero_le _
  | some k =>
    simp only
    cases (here s).lookup k with
    | none => exact Nat.zero_le _
    | some us => exact Nat.le_refl _
theorem good_ruled {B : List Nat} {here : Nat → Here} (rl : List (Nat × Nat)) (G : GoodW B here) : GoodW B (ruledH here rl) := by
  refine ⟨G.nd, G.few, fun s hs => ?_, fun s hs => Nat.le_trans (ruledH_len _ _ _) (by decide), fun s hs x hx => G.least s hs x (ruledH_mem hx), fun s hs x hx => G.most s hs x (ruledH_mem hx), fun s hs x hx => G.cl s hs x (ruledH_mem hx)⟩
  have := ruledH_len here rl s
  match h : ruledH here rl s with
  | [] => exact List.nodup_nil
  | [a] => exact List.nodup_cons.mpr ⟨List.not_mem_nil, List.nodup_nil⟩
  | a :: b :: r =>
    rw [h] at this
    simp only [List.length_cons] at this
    omega
theorem nx_ruled3 {B : List Nat} {here : Nat → Here} (rl : List (Nat × Nat)) (G : GoodW B here) {u : Nat} (hu : u ∈ B) : (nxW (ruledH here rl) u).length ≤ 3 := by
  have := ruledH_len here rl u
  unfold nxW
  match h : ruledH here rl u with
  | [] => exact Nat.zero_le _
  | [a] =>
    have : a ∈ ruledH here rl u := by rw [h]; exact List.mem_cons_self ..
    have := G.most u hu a (ruledH_mem this)
    rw [List.flatMap_cons, List.flatMap_nil, List.append_nil]
    exact this
  | a :: b :: r =>
    rw [h] at this
    simp only [List.length_cons] at this
    omega
theorem nx_in {B : List Nat} {here : Nat → Here} (G : GoodW B here) : ∀ u ∈ B, ∀ v ∈ nxW here u, v ∈ B := by
  intro u hu v hv
  obtain ⟨x, hx, hv⟩ := List.mem_flatMap.mp hv
  exact G.cl u hu x hx v hv
/-- a rule of a task, told among the ways -/
theorem nx_rule {here : Nat → Here} {f : Rule} {rl : List (Nat × Nat)} (hf : ∀ u, rl.lookup u = f u) (hh : ∀ u k, f u = some k → (here u).lookup k = some (t.next u k)) : nxW (ruledH here rl) = nxF t f := by
  funext u
  unfold nxW ruledH nxF
  rw [hf u]
  cases e : f u with
  | none => rfl
  | some k =>
    simp only
    rw [hh u k e]
    simp
theorem hereT_lookup {u k : Nat} (h : t.can u k = true) : (hereT t u).lookup k = some (t.next u k) := by
  refine in_lookup (by rw [hereT_keys]; exact cans_nodup u) ?_
  exact List.mem_map.mpr ⟨k, List.mem_filter.mpr ⟨List.mem_range.mpr (can_lt h), h⟩, rfl⟩
end
end Sh
set_option Elab.async false
namespace Sh
open Pn07
/-! ### hope: the ways within what is kept -/
def leftH (w : Here) (kept : List Nat) : Here := w.filter fun x => x.2.all kept.contains
section
variable {t : Task}
theorem contains_same {a b : List Nat} (h : ∀ u, u ∈ a ↔ u ∈ b) : a.contains = b.contains := by
  funext u
  rw [Bool.eq_iff_iff, List.contains_iff_mem, List.contains_iff_mem]
  exact h u
theorem left_any {l : List Nat} {f : Nat → List Nat} {B : List Nat} {q : List Nat → Bool} : ((l.map fun k => (k, f k)).filter fun x : Nat × List Nat => x.2.all B.contains).any (fun x => q x.2) = l.any fun k => (f k).all B.contains && q (f k) := by
  rw [List.any_filter, List.any_map]
  rfl
/-- the program's state between two turns: what is kept, and the specification's -/
structure HopeInv (t : Task) (B : List Nat) (here : Nat → Here) : Prop where
  good : GoodW B here
  eq : ∀ s ∈ B, here s = leftH (hereT t s) B
  ex : ∃ x n, Rising x ∧ (∀ s, s ∈ B ↔ s ∈ x) ∧ x.length < n ∧ t.prune n x = t.hope
theorem hope_start (w : Wf t) : HopeInv t t.states (hereT t) := by
  refine ⟨good_T w, fun s hs => ?_, t.states, sz t + 1, rising_range _, fun s => Iff.rfl, ?_, rfl⟩
  · unfold leftH
    refine (List.filter_eq_self.mpr fun x hx => ?_).symm
    exact List.all_eq_true.mpr fun v hv => List.contains_iff_mem.mpr ((good_T w).cl s hs x hx v hv)
  · rw [states_len]
    omega
theorem hope_level {B x : List Nat} {here : Nat → Here} (G : GoodW B here) (eq : ∀ s ∈ B, here s = leftH (hereT t s) B) (hx : Rising x) (hm : ∀ s, s ∈ B ↔ s ∈ x) (hl : x.length ≤ sz t) (s : Nat) :
    level (lvW false B here t.goal) s = level (t.hopes x (sz t) [x.filter t.done]) s := by
  rw [hopes_rounds]
  refine level_same (d := t.done) lvW_built (lvW_sat G.nd) mono_W (built_rounds _ _ built_start) (rounds_sat (rising_nodup hx) _ _ (flat_start (rising_nodup hx)) (by omega)) mono_hope hm (fun a b s hs _ hab => ?_) s
  unfold cW cHope
  rw [eq s hs]
  unfold leftH hereT
  rw [left_any (q := fun l => srv false l a.contains), contains_same hm, contains_same hab]
  rfl
theorem flat_level {l l' : List (List Nat)} (h : ∀ s, level l s = level l' s) (s : Nat) : s ∈ l.flatten ↔ s ∈ l'.flatten := by
  rw [level_mem, level_mem, h s]
structure HopeEnd (t : Task) (B : List Nat) (here : Nat → Here) : Prop where
  good : GoodW B here
  eq : ∀ s ∈ B, here s = leftH (hereT t s) B
  lv : ∀ s, level (lvW false B here t.goal) s = level t.hope s
  mem : ∀ s, s ∈ t.hope.flatten ↔ s ∈ B
theorem mem_len {B x : List Nat} (hB : B.Nodup) (hx : Rising x) (hm : ∀ s, s ∈ B ↔ s ∈ x) : B.length = x.length := nodup_same_len hB (rising_nodup hx) hm
/-- nothing falls away -/
theorem HopeInv.stop {B : List Nat} {here : Nat → Here} (h : HopeInv t B here) (hlt : ∀ s ∈ B, s < sz t) (hn : ¬ (lvW false B here t.goal).flatten.length < B.length) : HopeEnd t B here := by
  obtain ⟨x, n, hx, hm, hxn, hp⟩ := h.ex
  have hxl : x.length ≤ sz t := rising_len hx fun s hs => hlt s ((hm s).mpr hs)
  have hlv := hope_level (t := t) h.good h.eq hx hm hxl
  have hfl := lvW_flat (m := false) (here := here) (g := t.goal) h.good.nd
  have hall : ∀ s, s ∈ (lvW false B here t.goal).flatten ↔ s ∈ B := fun s => ⟨hfl.sub s, nodup_full hfl.nd hfl.sub (by omega) s⟩
  cases n with
  | zero => exact absurd hxn (Nat.not_lt_zero _)
  | succ n =>
    have hy : (x.filter (t.hopes x (sz t) [x.filter t.done]).flatten.contains).length = x.length := by
      refine List.length_filter_eq_length_iff.mpr fun s hs => ?_
      rw [List.contains_iff_mem, ← flat_level hlv s, hall s]
      exact (hm s).mpr hs
    have hp : (if (x.filter (t.hopes x (sz t) [x.filter t.done]).flatten.contains).length = x.length then t.hopes x (sz t) [x.filter t.done] else t.prune n (x.filter (t.hopes x (sz t) [x.filter t.done]).flatten.contains)) = t.hope := hp
    rw [if_pos hy] at hp
    rw [hp] at hlv
    exact ⟨h.good, h.eq, hlv, fun s => (flat_level hlv s).symm.trans (hall s)⟩
theorem leftH_left {w : Here} {B B' : List Nat} (h : ∀ s ∈ B', s ∈ B) : leftH (leftH w B) B' = leftH w B' := by
  unfold leftH
  rw [List.filter_filter]
  refine List.filter_congr fun x _ => ?_
  cases q : x.2.all B'.contains with
  | false => rfl
  | true =>
    rw [Bool.true_and]
    exact List.all_eq_true.mpr fun v hv => List.contains_iff_mem.mpr (h v (List.contains_iff_mem.mp (List.all_eq_true.mp q v hv)))
theorem good_left {B B' : List Nat} {here : Nat → Here} (G : GoodW B here) (hn : B'.Nodup) (hs : ∀ s ∈ B', s ∈ B) : GoodW B' (fun s => leftH (here s) B') := by
  refine ⟨hn, Nat.le_trans (List.Nodup.length_le_of_subset hn hs) G.few, fun s h => ?_, fun s h => ?_, fun s h x hx => G.least s (hs s h) x (List.mem_filter.mp hx).1, fun s h x hx => G.most s (hs s h) x (List.mem_filter.mp hx).1, fun s h x hx v hv => ?_⟩
  · exact List.Pairwise.sublist (List.Sublist.map _ List.filter_sublist) (G.kn s (hs s h))
  · exact Nat.le_trans (List.length_filter_le _ _) (G.ks s (hs s h))
  · exact List.contains_iff_mem.mp (List.all_eq_true.mp (List.mem_filter.mp hx).2 v hv)
/-- something falls away: the next turn -/
theorem HopeInv.next {B : List Nat} {here : Nat → Here} (h : HopeInv t B here) (hlt : ∀ s ∈ B, s < sz t) (hn : (lvW false B here t.goal).flatten.length < B.length) :
    HopeInv t (lvW false B here t.goal).flatten (fun s => leftH (here s) (lvW false B here t.goal).flatten) := by
  obtain ⟨x, n, hx, hm, hxn, hp⟩ := h.ex
  have hxl : x.length ≤ sz t := rising_len hx fun s hs => hlt s ((hm s).mpr hs)
  have hlv := hope_level (t := t) h.good h.eq hx hm hxl
  have hfl := lvW_flat (m := false) (here := here) (g := t.goal) h.good.nd
  refine ⟨good_left h.good hfl.nd hfl.sub, fun s hs => ?_, ?_⟩
  · show leftH (here s) _ = _
    rw [h.eq s (hfl.sub s hs), leftH_left hfl.sub]
  · cases n with
    | zero => exact absurd hxn (Nat.not_lt_zero _)
    | succ n =>
      have hp : (if (x.filter (t.hopes x (sz t) [x.filter t.done]).flatten.contains).length = x.length then t.hopes x (sz t) [x.filter t.done] else t.prune n (x.filter (t.hopes x (sz t) [x.filter t.done]).flatten.contains)) = t.hope := hp
      have hmy : ∀ s, s ∈ (lvW false B here t.goal).flatten ↔ s ∈ x.filter (t.hopes x (sz t) [x.filter t.done]).flatten.contains := fun s => by
        rw [List.mem_filter, List.contains_iff_mem, ← flat_level hlv s]
        exact ⟨fun z => ⟨(hm s).mp (hfl.sub s z), z⟩, fun z => z.2⟩
      have hyl := mem_len hfl.nd (rising_filter _ hx) hmy
      have hBl := mem_len h.good.nd hx hm
      have hne : ¬ (x.filter (t.hopes x (sz t) [x.filter t.done]).flatten.contains).length = x.length := by omega
      rw [if_neg hne] at hp
      exact ⟨_, n, rising_filter _ hx, hmy, by omega, hp⟩
theorem HopeEnd.rule {B : List Nat} {here : Nat → Here} (h : HopeEnd t B here) (s : Nat) : ruleW false here (prs (lvW false B here t.goal)) s = t.hopeAct t.hope s := by
  unfold ruleW Task.hopeAct
  rw [prs_lookup, h.lv s]
  cases e : level t.hope s with
  | none => rfl
  | some n =>
    cases n with
    | zero => rfl
    | succ n =>
      have hs : s ∈ B := (h.mem s).mp (level_mem.mpr ⟨_, e⟩)
      simp only
      rw [h.eq s hs]
      unfold lowW leftH hereT
      rw [List.find?_filter, List.find?_map, Option.map_map]
      have : ((·.1) ∘ fun k => (k, t.next s k)) = (id : Nat → Nat) := rfl
      rw [this, Option.map_id]
      show (t.cans s).find? _ = (t.cans s).find? _
      congr 1
      funext k
      simp only [Function.comp]
      rw [contains_same h.mem]
      have e2 : srv false (t.next s k) (upTo (prs (lvW false B here t.goal)) n) = (t.next s k).any fun u => match level t.hope u with
          | some m => decide (m ≤ n)
          | none => false := by
        show (t.next s k).any _ = _
        congr 1
        funext u
        rw [upTo_level, h.lv u]
        all_goals (cases level t.hope u <;> rfl)
      rw [e2]
      generalize (t.next s k).all B.contains = a
      generalize ((t.next s k).any fun u => match level t.hope u with
          | some m => decide (m ≤ n)
          | none => false) = b
      cases a <;> cases b <;> rfl
theorem HopeEnd.told {B : List Nat} {here : Nat → Here} (h : HopeEnd t B here) {u k : Nat} (e : t.hopeAct t.hope u = some k) : (here u).lookup k = some (t.next u k) := by
  obtain ⟨h1, h2, h3⟩ := hopeAct_some e
  have hu : u ∈ B := by
    rw [← h.mem u, level_mem]
    unfold Task.hopeAct at e
    cases q : level t.hope u with
    | none => rw [q] at e; cases e
    | some n => exact ⟨n, rfl⟩
  refine in_lookup (h.good.kn u hu) ?_
  rw [h.eq u hu]
  refine List.mem_filter.mpr ⟨lookup_in (hereT_lookup h2), ?_⟩
  unfold Task.hopeAct at e
  cases q : level t.hope u with
  | none => rw [q] at e; cases e
  | some n =>
    rw [q] at e
    cases n with
    | zero => cases e
    | succ n =>
      have := List.find?_some e
      rw [Bool.and_eq_true, contains_same h.mem] at this
      exact this.1
theorem HopeEnd.count {B : List Nat} {here : Nat → Here} (h : HopeEnd t B here) : (lvW false B here t.goal).flatten.length = t.hope.flatten.length := by
  obtain ⟨X, hX⟩ := hope_is t
  have hf : t.hope.flatten.Nodup := by
    rw [hX.eq, hopes_rounds]
    exact (flat_rounds (rising_nodup hX.ris) _ _ (flat_start (rising_nodup hX.ris))).nd
  exact nodup_same_len (lvW_flat h.good.nd).nd hf fun s => flat_level h.lv s
end
end Sh
set_option Elab.async false
namespace Sh
open Pn07
section
variable {t : Task} {f : Rule} {rl : List (Nat × Nat)}
theorem hereT_lookup' (u k : Nat) : (hereT t u).lookup k = if t.can u k = true then some (t.next u k) else none := by
  by_cases h : t.can u k = true
  · rw [if_pos h, hereT_lookup h]
  · rw [if_neg h, lookup_noneH, hereT_keys]
    intro z
    exact h (List.mem_filter.mp z).2
/-- a rule that is brought: told where it is not as wanted -/
def Brought (t : Task) (f : Rule) (rl : List (Nat × Nat)) : Prop := ∀ s, rl.lookup s = if t.done s = true then none else f s
theorem ruled_is (h : Brought t f rl) (s : Nat) : ruledH (hereT t) rl s = if t.done s = true then [] else match f s with
    | some k => if t.can s k = true then [(k, t.next s k)] else []
    | none => [] := by
  unfold ruledH
  rw [h s]
  by_cases hd : t.done s = true
  · rw [if_pos hd, if_pos hd]
  · rw [if_neg hd, if_neg hd]
    cases e : f s with
    | none => rfl
    | some k =>
      simp only
      rw [hereT_lookup']
      by_cases hc : t.can s k = true
      · rw [if_pos hc, if_pos hc]
      · rw [if_neg hc, if_neg hc]
theorem nx_brought (h : Brought t f rl) : nxW (ruledH (hereT t) rl) = nxS t f := by
  funext u
  unfold nxW nxS
  rw [ruled_is h u]
  by_cases hd : t.done u = true
  · rw [if_pos hd, if_pos hd]
    rfl
  · rw [if_neg hd, if_neg hd]
    cases e : f u with
    | none => rfl
    | some k =>
      simp only
      by_cases hc : t.can u k = true
      · rw [if_pos hc, if_pos hc, List.flatMap_cons, List.flatMap_nil, List.append_nil]
      · rw [if_neg hc, if_neg hc]
        rfl
/-- where one is left without an act -/
def stuckP (g : Nat) (here : Nat → Here) (u : Nat) : Bool := !doneW g u && decide ((here u).length = 0)
theorem stuck_is (h : Brought t f rl) (u : Nat) : stuckP t.goal (ruledH (hereT t) rl) u = (!t.done u && (match f u with
    | some k => !t.can u k
    | none => true)) := by
  unfold stuckP
  rw [ruled_is h u]
  show (!t.done u && _) = _
  cases hd : t.done u with
  | true => rfl
  | false =>
    cases e : f u with
    | none => rfl
    | some k =>
      cases hc : t.can u k with
      | true => simp
      | false => simp
theorem any_here (h : Brought t f rl) (all : List Nat) (s : Nat) : cW false (ruledH (hereT t) rl) all s = true ↔ ∃ v ∈ nxS t f s, v ∈ all := by
  rw [← nx_brought h]
  unfold cW nxW
  rw [List.any_eq_true]
  constructor
  · rintro ⟨x, hx, q⟩
    have q : x.2.any all.contains = true := q
    obtain ⟨v, hv, q⟩ := List.any_eq_true.mp q
    exact ⟨v, List.mem_flatMap.mpr ⟨x, hx, hv⟩, List.contains_iff_mem.mp q⟩
  · rintro ⟨v, hv, q⟩
    obtain ⟨x, hx, hv⟩ := List.mem_flatMap.mp hv
    exact ⟨x, hx, List.any_eq_true.mpr ⟨v, hv, List.contains_iff_mem.mpr q⟩⟩
/-- from where one can come to what is wanted -/
theorem lost_is (w : Wf t) (h : Brought t f rl) (s : Nat) : s ∈ (lvW false t.states (ruledH (hereT t) rl) t.goal).flatten ↔ s < sz t ∧ CanEnd t f s := by
  have hfl := lvW_flat (m := false) (here := ruledH (hereT t) rl) (g := t.goal) (states_nodup (t := t))
  constructor
  · intro hs
    refine ⟨mem_states.mp (hfl.sub s hs), ?_⟩
    obtain ⟨n, hn⟩ := level_mem.mp hs
    have hi := (lvW_itn states_nodup n s).mp ⟨n, Nat.le_refl _, hn⟩
    clear hn hs
    induction n generalizing s with
    | zero => exact ⟨s, .start, (List.mem_filter.mp hi).2⟩
    | succ n ih =>
      obtain ⟨_, h2⟩ := List.mem_filter.mp hi
      rw [Bool.or_eq_true, List.contains_iff_mem] at h2
      rcases h2 with h2 | h2
      · exact ih s h2
      · obtain ⟨v, hv, hv2⟩ := (any_here h _ s).mp h2
        obtain ⟨z, hz, hd⟩ := ih v hv2
        exact ⟨z, .head hv hz, hd⟩
  · rintro ⟨hs, v, hv, hd⟩
    have sat := lvW_sat (m := false) (here := ruledH (hereT t) rl) (g := t.goal) (states_nodup (t := t))
    refine Reach.back (p := fun x => x ∈ (lvW false t.states (ruledH (hereT t) rl) t.goal).flatten) hs (nxS_lt w) (fun u hu y hy q => ?_) hv ?_
    · refine Classical.byContradiction fun z => ?_
      have : u ∈ newOf t.states (cW false (ruledH (hereT t) rl)) (lvW false t.states (ruledH (hereT t) rl) t.goal).flatten := by
        refine List.mem_filter.mpr ⟨mem_states.mpr hu, ?_⟩
        rw [(any_here h _ u).mpr ⟨y, hy, q⟩, Bool.and_true, Bool.not_eq_true']
        cases q2 : (lvW false t.states (ruledH (hereT t) rl) t.goal).flatten.contains u with
        | false => rfl
        | true => exact absurd (List.contains_iff_mem.mp q2) z
      rw [sat] at this
      exact absurd this List.not_mem_nil
    · rw [level_mem]
      obtain ⟨k, _, e⟩ := (lvW_itn states_nodup 0 v).mpr (List.mem_filter.mpr ⟨mem_states.mpr (hv.lt hs (nxS_lt w)), hd⟩)
      exact ⟨k, e⟩
theorem steps_is (h : Brought t f rl) (s : Nat) : level (lvW true t.states (ruledH (hereT t) rl) t.goal) s = t.worst f s := by
  unfold Task.worst
  rw [by_rounds]
  refine level_same (d := t.done) lvW_built (lvW_sat states_nodup) mono_W (built_rounds _ _ built_start) (rounds_sat states_nodup _ _ (flat_start states_nodup) (by rw [states_len]; exact Nat.le_add_left _ _)) mono_by (fun s => Iff.rfl) (fun a b s _ hd hab => ?_) s
  unfold cW cBy
  rw [ruled_is h s, if_neg (by rw [hd]; exact Bool.false_ne_true), contains_same hab]
  cases e : f s with
  | none => rfl
  | some k =>
    simp only
    cases hc : t.can s k with
    | true => simp [srv]
    | false => simp
/-- what judged gives back -/
def verdict (B : List Nat) (ruled : Nat → Here) (g : Nat) (l : List Nat) (s : Nat) : List Nat := match l.find? (stuckP g ruled) with
  | some u => [3, u]
  | none => match l.find? fun u => ((prs (lvW false B ruled g)).lookup u).isNone with
    | some u => [0, u]
    | none => match level (lvW true B ruled g) s with
      | some n => [2, n]
      | none => [1]
def told4 : Verdict → List Nat
  | .lost u => [3, u]
  | .stuck u => [0, u]
  | .hope => [1]
  | .sure n => [2, n]
theorem find_same {l : List Nat} {p q : Nat → Bool} (h : ∀ u ∈ l, p u = q u) : l.find? p = l.find? q := by
  induction l with
  | nil => rfl
  | cons a r ih =>
    rw [List.find?_cons, List.find?_cons, h a (List.mem_cons_self ..), ih fun u hu => h u (List.mem_cons_of_mem _ hu)]
theorem verdict_is (w : Wf t) (h : Brought t f rl) (s : Nat) (hs : s < sz t) : verdict t.states (ruledH (hereT t) rl) t.goal (t.ways f s) s = told4 (t.judge f s) := by
  have hw := ways_all (f := f) (nxS_lt w) hs
  have e1 : (t.ways f s).find? (stuckP t.goal (ruledH (hereT t) rl)) = (t.ways f s).find? fun u => !t.done u && (match f u with
    | some k => !t.can u k
    | none => true) := find_same fun u _ => stuck_is h u
  have e2 : (t.ways f s).find? (fun u => ((prs (lvW false t.states (ruledH (hereT t) rl) t.goal)).lookup u).isNone) = (t.ways f s).find? fun u => !(t.back f (2 ^ t.facts) (t.states.filter t.done)).contains u := find_same fun u hu => by
    rw [prs_lookup]
    have hult : u < sz t := ((hw.2 u).mp hu).lt hs (nxS_lt w)
    have hb := back_is (f := f) w u
    have hl := lost_is w h u
    have e : (level (lvW false t.states (ruledH (hereT t) rl) t.goal) u).isSome = (t.back f (2 ^ t.facts) (t.states.filter t.done)).contains u := by
      rw [level_isSome, Bool.eq_iff_iff, List.contains_iff_mem, List.contains_iff_mem, hb, hl]
    rw [← e]
    cases level (lvW false t.states (ruledH (hereT t) rl) t.goal) u <;> rfl
  unfold verdict Task.judge
  simp only
  rw [e1, e2, steps_is h s]
  cases (t.ways f s).find? fun u => !t.done u && (match f u with
    | some k => !t.can u k
    | none => true) with
  | some u => rfl
  | none =>
    simp only
    cases (t.ways f s).find? fun u => !(t.back f (2 ^ t.facts) (t.states.filter t.done)).contains u with
    | some u => rfl
    | none =>
      simp only
      cases t.worst f s <;> rfl
end
end Sh
set_option Elab.async false
namespace Sh
open Pn07
/-! ### how calls lie in the list -/
inductive CallW : List (List Int) → List Int → Prop
  | begins (x y : Int) : CallW [[0, x, y]] [0, x, y]
  | act (x y : Int) (row : List Int) : CallW [[1, x, y], row] (1 :: x :: y :: (row.length : Int) :: row)
  | goal (x : Int) : CallW [[2, x]] [2, x]
  | sure (x : Int) : CallW [[3, x]] [3, x]
  | hope (x : Int) : CallW [[4, x]] [4, x]
  | frm : CallW [[5]] [5]
  | judge (x : Int) (row : List Int) : CallW [[6, x], row] (6 :: x :: (row.length : Int) :: row)
theorem row_some {l x t : List Int} (h : PyFlat.row l = some (x, t)) : l = (x.length : Int) :: (x ++ t) := by
  unfold PyFlat.row at h
  cases l with
  | nil => cases h
  | cons n r =>
    simp only at h
    split at h
    · rename_i hc
      obtain ⟨h0, h1⟩ := hc
      cases h
      have e : (r.take n.toNat).length = n.toNat := by
        rw [List.length_take]
        omega
      rw [e, List.take_append_drop]
      congr 1
      omega
    · cases h
theorem rows_one {l t : List Int} {xs : List (List Int)} (h : PyFlat.rows 1 l = some (xs, t)) : ∃ x, xs = [x] ∧ l = (x.length : Int) :: (x ++ t) := by
  unfold PyFlat.rows at h
  cases e : PyFlat.row l with
  | none => rw [e] at h; cases h
  | some p =>
    obtain ⟨x, s⟩ := p
    rw [e] at h
    simp only [PyFlat.rows] at h
    cases h
    exact ⟨x, rfl, row_some e⟩
theorem take1 {r : List Int} (h : ¬ r.length < 1) : ∃ x t, r = x :: t := by
  cases r with
  | nil => exact absurd (by decide) h
  | cons x t => exact ⟨x, t, rfl⟩
theorem take2 {r : List Int} (h : ¬ r.length < 2) : ∃ x y t, r = x :: y :: t := by
  cases r with
  | nil => exact absurd (by decide) h
  | cons x t =>
    cases t with
    | nil => exact absurd (show 1 < 2 by decide) h
    | cons y t => exact ⟨x, y, t, rfl⟩
theorem call_words {l t : List Int} {c : List (List Int)} (h : PyFlat.call PyPn07.shape l = some (c, t)) : ∃ ws, CallW c ws ∧ l = ws ++ t := by
  unfold PyFlat.call at h
  cases l with
  | nil => cases h
  | cons p r =>
    simp only at h
    unfold PyPn07.shape at h
    by_cases h0 : p = 0
    · subst h0
      simp only [if_true] at h
      split at h
      · cases h
      · rename_i hc
        obtain ⟨x, y, u, rfl⟩ := take2 hc
        simp only [PyFlat.rows] at h
        cases h
        exact ⟨_, .begins x y, rfl⟩
    by_cases h1 : p = 1
    · subst h1
      rw [if_neg h0, if_pos rfl] at h
      simp only at h
      split at h
      · cases h
      · rename_i hc
        obtain ⟨x, y, u, rfl⟩ := take2 hc
        split at h
        · cases h
        · rename_i xs s e
          obtain ⟨row, rfl, e2⟩ := rows_one e
          cases h
          refine ⟨_, .act x y row, ?_⟩
          have e2 : u = (row.length : Int) :: (row ++ t) := e2
          rw [e2]
          rfl
    by_cases h2 : p = 2
    · subst h2
      rw [if_neg h0, if_neg h1, if_pos rfl] at h
      simp only at h
      split at h
      · cases h
      · rename_i hc
        obtain ⟨x, u, rfl⟩ := take1 hc
        simp only [PyFlat.rows] at h
        cases h
        exact ⟨_, .goal x, rfl⟩
    by_cases h3 : p = 3
    · subst h3
      rw [if_neg h0, if_neg h1, if_neg h2, if_pos rfl] at h
      simp only at h
      split at h
      · cases h
      · rename_i hc
        obtain ⟨x, u, rfl⟩ := take1 hc
        simp only [PyFlat.rows] at h
        cases h
        exact ⟨_, .sure x, rfl⟩
    by_cases h4 : p = 4
    · subst h4
      rw [if_neg h0, if_neg h1, if_neg h2, if_neg h3, if_pos rfl] at h
      simp only at h
      split at h
      · cases h
      · rename_i hc
        obtain ⟨x, u, rfl⟩ := take1 hc
        simp only [PyFlat.rows] at h
        cases h
        exact ⟨_, .hope x, rfl⟩
    by_cases h5 : p = 5
    · subst h5
      rw [if_neg h0, if_neg h1, if_neg h2, if_neg h3, if_neg h4, if_pos rfl] at h
      simp only at h
      split at h
      · cases h
      · simp only [PyFlat.rows] at h
        cases h
        exact ⟨_, .frm, rfl⟩
    by_cases h6 : p = 6
    · subst h6
      rw [if_neg h0, if_neg h1, if_neg h2, if_neg h3, if_neg h4, if_neg h5, if_pos rfl] at h
      simp only at h
      split at h
      · cases h
      · rename_i hc
        obtain ⟨x, u, rfl⟩ := take1 hc
        split at h
        · cases h
        · rename_i xs s e
          obtain ⟨row, rfl, e2⟩ := rows_one e
          cases h
          refine ⟨_, .judge x row, ?_⟩
          have e2 : u = (row.length : Int) :: (row ++ t) := e2
          rw [e2]
          rfl
    · rw [if_neg h0, if_neg h1, if_neg h2, if_neg h3, if_neg h4, if_neg h5, if_neg h6] at h
      cases h
theorem whole_id (c : List (List Int)) : PyPn07.whole c = c := by
  unfold PyPn07.whole
  split <;> rfl
theorem map_whole (cs : List (List (List Int))) : cs.map PyPn07.whole = cs := by
  conv => rhs; rw [← List.map_id cs]
  exact List.map_congr_left fun c _ => whole_id c
/-- the calls that are still to be played: l is what is left of the list -/
inductive Left : List Int → List (List (List Int)) → Prop
  | nil : Left [] []
  | cons {c ws l cs} : CallW c ws → Left l cs → Left (ws ++ l) (c :: cs)
theorem calls_left : ∀ {f : Nat} {l : List Int} {cs : List (List (List Int))}, PyFlat.calls PyPn07.shape f l = some cs → Left l cs
  | f, [], cs, h => by
    have h : some [] = some cs := by
      cases f <;> exact h
    cases h
    exact .nil
  | 0, _ :: _, _, h => by cases h
  | f + 1, p :: r, cs, h => by
    unfold PyFlat.calls at h
    cases e : PyFlat.call PyPn07.shape (p :: r) with
    | none => rw [e] at h; cases h
    | some q =>
      obtain ⟨c, t⟩ := q
      rw [e] at h
      simp only at h
      cases e2 : PyFlat.calls PyPn07.shape f t with
      | none => rw [e2] at h; cases h
      | some ds =>
        rw [e2] at h
        cases h
        obtain ⟨ws, hw, e3⟩ := call_words e
        rw [e3]
        exact .cons hw (calls_left e2)
/-- what the request is, and what is due -/
theorem request {l : List Int} (h : PyPn07.answers_asked l = true) : ∃ cs, Left l cs ∧ cs.length ≤ 60 ∧ (∀ c ∈ cs, Pn07Neutral.asked1 c = true) ∧ PyPn07.answers l = PyFlat.told (PyFlat.played Pn07Neutral.step Pn07Neutral.start cs) ∧ (PyPn07.answers l).length ≤ 10000000 := by
  have hshort : (PyPn07.answers l).length ≤ 10000000 := by
    unfold PyPn07.answers_asked at h
    split at h
    · cases h
    · rw [Bool.and_eq_true] at h
      exact of_decide_eq_true h.2
  unfold PyPn07.answers_asked at h
  refine (fun ⟨cs, z1, z2, z3, z4⟩ => ⟨cs, z1, z2, z3, z4, hshort⟩ : (∃ cs, Left l cs ∧ cs.length ≤ 60 ∧ (∀ c ∈ cs, Pn07Neutral.asked1 c = true) ∧ PyPn07.answers l = PyFlat.told (PyFlat.played Pn07Neutral.step Pn07Neutral.start cs)) → _) ?_
  unfold PyPn07.answers PyPn07.calls
  cases e : PyFlat.calls PyPn07.shape l.length l with
  | none => rw [e] at h; cases h
  | some cs =>
    rw [e] at h
    simp only [Bool.and_eq_true, map_whole] at h
    obtain ⟨⟨⟨⟨_, h2⟩, _⟩, h4⟩, _⟩ := h
    unfold Pn07Neutral.asked at h4
    rw [Bool.and_eq_true] at h4
    refine ⟨cs, calls_left e, of_decide_eq_true h2, fun c hc => List.all_eq_true.mp h4.1 c hc, ?_⟩
    simp only [map_whole]
/-! ### well-formed houses stay so -/
theorem wf_init : Wf Pn07.init.task := ⟨by decide, by decide, by decide, by decide, fun a ha => absurd ha List.not_mem_nil⟩
theorem wf_step {t : Task} (w : Wf t) (c : Call) : Wf (Pn07.step ⟨t⟩ c).1.task := by
  cases c with
  | begins n g =>
    show Wf (if n = 0 ∨ 4 < n ∨ 2 ^ n ≤ g then ((⟨t⟩ : House), ok (-1)) else (⟨⟨n, [], g⟩⟩, ok 0)).1.task
    split
    · exact w
    · rename_i h
      exact ⟨by show 1 ≤ n; omega, by show n ≤ 4; omega, by show g < 2 ^ n; omega, Nat.zero_le _, fun a ha => absurd ha List.not_mem_nil⟩
  | goal g =>
    show Wf (if 2 ^ t.facts ≤ g then ((⟨t⟩ : House), ok (-1)) else (⟨{ t with goal := g }⟩, ok 0)).1.task
    split
    · exact w
    · rename_i h
      exact ⟨w.f1, w.f4, by show g < 2 ^ t.facts; omega, w.few, w.acts⟩
  | act p q l =>
    unfold Pn07.step
    simp only
    by_cases h6 : t.acts.length = ACTS
    · rw [if_pos h6]
      exact w
    · rw [if_neg h6]
      cases e : pairs l with
      | none => exact w
      | some o =>
        simp only
        split
        · exact w
        · rename_i h
          refine ⟨w.f1, w.f4, w.goal, ?_, fun a ha => ?_⟩
          · show (t.acts ++ [(⟨p, q, o⟩ : Act)]).length ≤ 6
            rw [List.length_append, List.length_singleton]
            have := w.few
            have h6 : ¬ t.acts.length = 6 := h6
            omega
          · have ha : a ∈ t.acts ++ [(⟨p, q, o⟩ : Act)] := ha
            rcases List.mem_append.mp ha with z | z
            · exact w.acts a z
            · rw [List.mem_singleton.mp z]
              have hne : o ≠ [] := fun z => h (.inr (.inr (.inl z)))
              have h3 : ¬ 3 < o.length := fun z => h (.inr (.inr (.inr (.inl z))))
              refine ⟨Nat.lt_of_not_le fun z => h (.inl z), Nat.lt_of_not_le fun z => h (.inr (.inl z)), List.length_pos_iff.mpr hne, by show o.length ≤ 3; omega, fun x hx => ?_⟩
              refine ⟨Nat.lt_of_not_le fun z => ?_, Nat.lt_of_not_le fun z => ?_⟩
              · exact h (.inr (.inr (.inr (.inr (List.any_eq_true.mpr ⟨x, hx, by rw [Bool.or_eq_true]; exact .inl (decide_eq_true z)⟩)))))
              · exact h (.inr (.inr (.inr (.inr (List.any_eq_true.mpr ⟨x, hx, by rw [Bool.or_eq_true]; exact .inr (decide_eq_true z)⟩)))))
  | sure s =>
    show Wf (if 2 ^ t.facts ≤ s then ((⟨t⟩ : House), ok (-1)) else (⟨t⟩, _)).1.task
    split <;> exact w
  | hope s =>
    show Wf (if 2 ^ t.facts ≤ s then ((⟨t⟩ : House), ok (-1)) else (⟨t⟩, _)).1.task
    split <;> exact w
  | from_ => exact w
  | judge s l =>
    unfold Pn07.step
    cases e : pairs l with
    | none =>
      simp only [e]
      exact w
    | some r =>
      simp only [e]
      split <;> exact w
end Sh
set_option Elab.async false
set_option maxRecDepth 100000
set_option maxHeartbeats 2000000
namespace Sh
open PySem PySem.Spec PyProof.Rows L2

/-! ### numbers -/
abbrev iV (n : Nat) : V := .int (n : Int)
theorem iV_inj {a b : Nat} (h : iV a = iV b) : a = b := by
  injection h with h
  omega
theorem iV_eq {a b : Nat} : decide (iV a = iV b) = decide (a = b) := by
  by_cases h : a = b
  · rw [h, decide_eq_true rfl, decide_eq_true rfl]
  · rw [decide_eq_false h, decide_eq_false fun z => h (iV_inj z)]
theorem bnd (a b : Nat) : Builtin.bitAnd (a : Int) (b : Int) = ((a.land b : Nat) : Int) := by
  rw [bitAnd_pp (Int.natCast_nonneg a) (Int.natCast_nonneg b), Int.toNat_natCast, Int.toNat_natCast]
  rfl
theorem bout (s b k : Nat) : Builtin.bitOr (Builtin.bitAnd (s : Int) (Builtin.bitNot (k : Int))) (b : Int) = (((s - s.land k).lor b : Nat) : Int) := by
  have e1 : Builtin.bitAnd (s : Int) (Builtin.bitNot (k : Int)) = ((s - s.land k : Nat) : Int) := by
    have h1 : (0 : Int) ≤ (s : Int) := Int.natCast_nonneg s
    have h2 : ¬ (0 : Int) ≤ Builtin.bitNot (k : Int) := by
      show ¬ (0 : Int) ≤ -(k : Int) - 1
      omega
    have h3 : (Builtin.bitNot (Builtin.bitNot (k : Int))).toNat = k := by
      show (-(-(k : Int) - 1) - 1).toNat = k
      omega
    have h4 : s.land k ≤ s := Nat.and_le_left
    have e : Builtin.bitAnd (s : Int) (Builtin.bitNot (k : Int)) = (s : Int) - (((s : Int).toNat &&& (Builtin.bitNot (Builtin.bitNot (k : Int))).toNat : Nat) : Int) := by
      simp [Builtin.bitAnd, h1, h2]
    rw [e, h3, Int.toNat_natCast]
    show (s : Int) - ((s.land k : Nat) : Int) = ((s - s.land k : Nat) : Int)
    omega
  rw [e1, Bits.bitOr_pp (Int.natCast_nonneg _) (Int.natCast_nonneg b), Int.toNat_natCast, Int.toNat_natCast]
  rfl
theorem bits_le (n k : Nat) : Builtin.Int.intBits (n : Int) ≤ k ↔ n < 2 ^ k := by
  unfold Builtin.Int.intBits
  by_cases h : n = 0
  · subst h
    simp
    exact Nat.pow_pos (by decide)
  · have h' : ¬ (((n : Int) == 0) = true) := by
      simp
      omega
    rw [if_neg h', Int.natAbs_natCast]
    constructor
    · intro q
      exact (Nat.log2_lt h).mp (by omega)
    · intro q
      have := (Nat.log2_lt h).mpr q
      omega

/-! ### acts, as the specification has them, in the heap -/
def actF (A : Pn07.Act) (lo : Addr) : List (Str × V) := [("needs", iV A.pre), ("bars", iV A.no), ("outcomes", .ref lo)]
def OutAt (H : Hp) (t : Addr) (x : Nat × Nat) : Prop := H t = some (.tup [iV x.1, iV x.2])
/-- an act stands at p, all that it is made of within S -/
def ActAt (CA : Addr) (S : Addr → Prop) (H : Hp) (p : Addr) (A : Pn07.Act) : Prop := ∃ (dx lo : Addr) (ts : List Addr), H p = some (.ins CA dx (actF A lo)) ∧ H lo = some (.lst (ts.map V.ref)) ∧ S p ∧ S lo ∧ (∀ t ∈ ts, S t) ∧ Paired (OutAt H) ts A.outs
/-- a list of acts stands at la -/
def ActsAt (CA : Addr) (S : Addr → Prop) (H : Hp) (la : Addr) (acts : List Pn07.Act) : Prop := ∃ ps : List Addr, H la = some (.lst (ps.map V.ref)) ∧ Paired (ActAt CA S H) ps acts

theorem paired_imp {α β : Type} {F G : α → β → Prop} {l : List α} {m : List β} (h : Paired F l m) (i : ∀ a b, a ∈ l → F a b → G a b) : Paired G l m := by
  induction h with
  | nil => exact .nil
  | @cons a b l1 l2 h t ih => exact .cons (i a b (List.mem_cons_self ..) h) (ih fun a b ha => i a b (List.mem_cons_of_mem _ ha))
theorem paired_len {α β : Type} {F : α → β → Prop} {l : List α} {m : List β} (h : Paired F l m) : l.length = m.length := by
  induction h with
  | nil => rfl
  | cons h t ih => rw [List.length_cons, List.length_cons, ih]
theorem paired_get {α β : Type} {F : α → β → Prop} {l : List α} {m : List β} (h : Paired F l m) : ∀ {i : Nat} {b : β}, m[i]? = some b → ∃ a, l[i]? = some a ∧ F a b := by
  induction h with
  | nil => intro i b e; simp at e
  | @cons a b l1 l2 h t ih =>
    intro i c e
    cases i with
    | zero =>
      rw [List.getElem?_cons_zero] at e
      cases e
      exact ⟨a, rfl, h⟩
    | succ i =>
      rw [List.getElem?_cons_succ] at e
      exact ih e
theorem paired_get' {α β : Type} {F : α → β → Prop} {l : List α} {m : List β} (h : Paired F l m) : ∀ {i : Nat} {a : α}, l[i]? = some a → ∃ b, m[i]? = some b ∧ F a b := by
  induction h with
  | nil => intro i b e; simp at e
  | @cons a b l1 l2 h t ih =>
    intro i c e
    cases i with
    | zero =>
      rw [List.getElem?_cons_zero] at e
      cases e
      exact ⟨b, rfl, h⟩
    | succ i =>
      rw [List.getElem?_cons_succ] at e
      exact ih e

section
variable {CA : Addr} {S S' : Addr → Prop} {H H' : Hp}
theorem ActAt.keep {p : Addr} {A : Pn07.Act} (h : ActAt CA S H p A) (k : ∀ b o, S b → H b = some o → H' b = some o) : ActAt CA S H' p A := by
  obtain ⟨dx, lo, ts, h1, h2, s1, s2, s3, h3⟩ := h
  exact ⟨dx, lo, ts, k _ _ s1 h1, k _ _ s2 h2, s1, s2, s3, paired_imp h3 fun a b ha q => k _ _ (s3 a ha) q⟩
theorem ActAt.wide {p : Addr} {A : Pn07.Act} (h : ActAt CA S H p A) (k : ∀ b, S b → S' b) : ActAt CA S' H p A := by
  obtain ⟨dx, lo, ts, h1, h2, s1, s2, s3, h3⟩ := h
  exact ⟨dx, lo, ts, h1, h2, k _ s1, k _ s2, fun t ht => k _ (s3 t ht), h3⟩
theorem ActsAt.keep {la : Addr} {acts : List Pn07.Act} (h : ActsAt CA S H la acts) (k : ∀ b o, S b → H b = some o → H' b = some o) (kl : ∀ o, H la = some o → H' la = some o) : ActsAt CA S H' la acts := by
  obtain ⟨ps, h1, h2⟩ := h
  exact ⟨ps, kl _ h1, paired_imp h2 fun a b _ q => q.keep k⟩
theorem ActsAt.same {la : Addr} {acts : List Pn07.Act} (h : ActsAt CA S H la acts) (k : Same H H') : ActsAt CA S H' la acts := h.keep (fun b o _ e => k b o e) (fun o e => k la o e)
theorem ActsAt.wide {la : Addr} {acts : List Pn07.Act} (h : ActsAt CA S H la acts) (k : ∀ b, S b → S' b) : ActsAt CA S' H la acts := by
  obtain ⟨ps, h1, h2⟩ := h
  exact ⟨ps, h1, paired_imp h2 fun a b _ q => q.wide k⟩
end
theorem same_new {H : Hp} {p : Addr} {o : HO} (h : H p = none) : Same H (upd H p o) := fun b q e => by
  rw [upd_ne (ne_of_none e h)]
  exact e

theorem if_true_of {c : Bool} {A B : Prop} (hc : c = true) (h : A) : if c = true then A else B := by
  rw [if_pos hc]
  exact h
theorem if_false_of {c : Bool} {A B : Prop} (hc : c = false) (h : B) : if c = true then A else B := by
  rw [hc, if_neg Bool.false_ne_true]
  exact h
/-- an if by a test that is known by another name -/
theorem ite_by {c c' : Bool} {A B : Prop} (e : c = c') (h1 : c' = true → A) (h0 : c' = false → B) : if c = true then A else B := by
  subst e
  cases c with
  | true => exact if_true_of rfl (h1 rfl)
  | false => exact if_false_of rfl (h0 rfl)
theorem q_bl {Q : VK} {H : Hp} {b c : Bool} (k : Q (.bl c) H) (e : b = c) : Q (.bl b) H := by
  rw [e]
  exact k
theorem q_of {Q : VK} {H : Hp} {v u : V} (k : Q u H) (e : v = u) : Q v H := by
  rw [e]
  exact k
theorem lk_here {k : Str} {v : V} {r : List (Str × V)} : List.lookup k ((k, v) :: r) = some v := by
  have e : (k == k) = true := beq_self_eq_true k
  simp only [List.lookup, e]
theorem lk_past {k g : Str} {v : V} {r : List (Str × V)} (h : (k == g) = false) : List.lookup k ((g, v) :: r) = List.lookup k r := by
  simp only [List.lookup, h]
theorem put_here {f : Str} {v x : V} {r : List (Str × V)} : putF f v ((f, x) :: r) = (f, v) :: r := if_pos rfl
theorem put_past {f g : Str} {v x : V} {r : List (Str × V)} (h : ¬ g = f) : putF f v ((g, x) :: r) = (g, x) :: putF f v r := if_neg h
theorem actF_needs (A : Pn07.Act) (lo : Addr) : (actF A lo).lookup ("needs" : Str) = some (iV A.pre) := lk_here
theorem actF_bars (A : Pn07.Act) (lo : Addr) : (actF A lo).lookup ("bars" : Str) = some (iV A.no) := (lk_past (by decide +kernel)).trans lk_here
theorem actF_outs (A : Pn07.Act) (lo : Addr) : (actF A lo).lookup ("outcomes" : Str) = some (.ref lo) := (lk_past (by decide +kernel)).trans ((lk_past (by decide +kernel)).trans lk_here)
theorem actF_may (A : Pn07.Act) (lo : Addr) : (actF A lo).lookup ("may_be_done" : Str) = none := (lk_past (by decide +kernel)).trans ((lk_past (by decide +kernel)).trans ((lk_past (by decide +kernel)).trans rfl))
theorem actF_leads (A : Pn07.Act) (lo : Addr) : (actF A lo).lookup ("leads_to" : Str) = none := (lk_past (by decide +kernel)).trans ((lk_past (by decide +kernel)).trans ((lk_past (by decide +kernel)).trans rfl))
theorem actF_new (A : Pn07.Act) (lo : Addr) : putF "outcomes" (.ref lo) (putF "bars" (iV A.no) (putF "needs" (iV A.pre) [])) = actF A lo := by
  have e1 : putF "bars" (iV A.no) (putF "needs" (iV A.pre) []) = [(("needs" : Str), iV A.pre), ("bars", iV A.no)] := (put_past (by decide +kernel)).trans rfl
  rw [e1]
  exact (put_past (by decide +kernel)).trans (congrArg _ ((put_past (by decide +kernel)).trans rfl))

/-! ### dicts from numbers to numbers -/
def dN (kvs : List (Nat × Nat)) : List (Key × V) := kvs.map fun p => (Sum.inl (p.1 : Int), iV p.2)
theorem dN_val (kvs : List (Nat × Nat)) (s : Nat) : valV (dN kvs) (Sum.inl (s : Int)) = (kvs.lookup s).map iV := by
  induction kvs with
  | nil => rfl
  | cons p r ih =>
    by_cases e : p.1 = s
    · have h1 : valV (dN (p :: r)) (Sum.inl (s : Int)) = some (iV p.2) := valV_pos (by show (Sum.inl (p.1 : Int) : Key) = Sum.inl (s : Int); rw [e])
      rw [h1]
      obtain ⟨a, b⟩ := p
      subst e
      simp [List.lookup]
    · have h1 : valV (dN (p :: r)) (Sum.inl (s : Int)) = valV (dN r) (Sum.inl (s : Int)) := valV_neg (by
        show ¬ (Sum.inl (p.1 : Int) : Key) = Sum.inl (s : Int)
        intro z
        injection z with z
        omega)
      rw [h1, ih]
      obtain ⟨a, b⟩ := p
      have e' : (s == a) = false := by
        simp
        exact fun z => e z.symm
      simp [List.lookup, e']
theorem dN_put {kvs : List (Nat × Nat)} {s : Nat} (v : Nat) (h : kvs.lookup s = none) : putK (dN kvs) (Sum.inl (s : Int)) (iV v) = dN (kvs ++ [(s, v)]) := by
  have e : valV (dN kvs) (Sum.inl (s : Int)) = none := by rw [dN_val, h]; rfl
  rw [putK_new _ e]
  unfold dN
  rw [List.map_append]
  rfl
theorem dN_keys (kvs : List (Nat × Nat)) : (dN kvs).map (·.1) = (kvs.map fun p => (p.1 : Int)).map Sum.inl := by
  unfold dN
  rw [List.map_map, List.map_map]
  rfl
theorem dN_len (kvs : List (Nat × Nat)) : (dN kvs).length = kvs.length := by
  unfold dN
  rw [List.length_map]
end Sh
set_option Elab.async false
set_option maxRecDepth 100000
set_option maxHeartbeats 2000000
namespace Sh
open PySem PySem.Spec PyProof.Rows L2
def top (i : Nat) : Stmt := PySem.Challenge.pw_surehopes_s01_answers.main.body.getD i (.Pass ⟨0, 0, 0, 0⟩)
/-! ### the text by places -/
abbrev sAInit : Stmt := inClass (top 1) 0
abbrev sMay : Stmt := inClass (top 1) 1
abbrev sLeads : Stmt := inClass (top 1) 2
abbrev sWanted : Stmt := top 2
abbrev sWaysIn : Stmt := top 3
abbrev sWaysOf : Stmt := top 4
abbrev sUpTo : Stmt := top 5
abbrev sAllUp : Stmt := top 6
abbrev sAnyUp : Stmt := top 7
abbrev sLow : Stmt := top 8
abbrev sAbove : Stmt := top 9
abbrev sLevels : Stmt := top 10
abbrev sRule : Stmt := top 11
abbrev sLeftW : Stmt := top 12
abbrev sWithin : Stmt := top 13
abbrev sHopeful : Stmt := top 14
abbrev sFirstT : Stmt := top 15
abbrev sWaysBy : Stmt := top 16
abbrev sCome : Stmt := top 17
abbrev sTold : Stmt := top 18
abbrev sStuck : Stmt := top 19
abbrev sWithout : Stmt := top 20
abbrev sJudged : Stmt := top 21
abbrev sFacts : Stmt := top 34
abbrev sPaired : Stmt := top 35
abbrev sLvR : Stmt := top 36
abbrev sEnd : Stmt := top 38
abbrev sAnsOf : Stmt := top 39
abbrev sAns : Stmt := top 40
/-! ### promises of an act's methods -/
def spAInit (CA : Addr) : Sp := fun vs H Q _ => ∃ (p dx lo : Addr) (A : Pn07.Act), vs = [.ref p, iV A.pre, iV A.no, .ref lo] ∧ H p = some (.ins CA dx []) ∧
  ∀ H' : Hp, H' p = some (.ins CA dx (actF A lo)) → (∀ b o, H b = some o → b ≠ p → H' b = some o) → Q .non H'
def spMay (CA : Addr) : Sp := fun vs H Q _ => ∃ (p : Addr) (A : Pn07.Act) (s : Nat), vs = [.ref p, iV s] ∧ ActAt CA (fun _ => True) H p A ∧ Q (.bl (canA A s)) H
def spLeads (CA : Addr) : Sp := fun vs H Q _ => ∃ (p : Addr) (A : Pn07.Act) (s : Nat), vs = [.ref p, iV s] ∧ ActAt CA (fun _ => True) H p A ∧ A.outs.length ≤ 1000 ∧
  ∀ (H' : Hp) (q : Addr), Same H H' → H q = none → H' q = some (.lst ((nextA A s).map iV)) → Q (.ref q) H'
/-- what the walk asks of the class Act -/
structure TxtA (K : PySem.W.Frag) (CA : Addr) : Prop where
  cl : Cls K CA
  nN : NoAttr K CA "needs"
  nB : NoAttr K CA "bars"
  nO : NoAttr K CA "outcomes"
section
variable {P : Program} {w : World} {K : PySem.W.Frag} {mg : Str → Option Value} {base : Heap} {CA : Addr}
theorem scAInit : FnScope ["self", "needs", "bars", "outcomes"] ["self", "needs", "bars", "outcomes"] (defScope sAInit) := ⟨rfl, rfl, rfl, by decide +kernel, rfl, by decide +kernel, by decide +kernel⟩
theorem ok_ainit {f : Addr} {fd : FuncData} (F : Fun K "__init__" "Act.__init__" sAInit f fd) (T : TxtA K CA) : FnOk P w K mg base CX0 1 f fd ["self", "needs", "bars", "outcomes"] (spAInit CA) := by
  refine F.ok scAInit (fun vs H Q E h => ?_) (fun cdv A outer s H vs Q E hr h => ?_)
  · obtain ⟨p, dx, lo, A, rfl, _⟩ := h
    rfl
  · obtain ⟨p, dx, lo, A, rfl, hp, k⟩ := h
    refine ⟨_, pss_cons (ps_fld (pv 0) (pv 1) rfl) (pss_cons (ps_fld (pv 0) (pv 2) rfl) (pss_one (ps_fld (pv 0) (pv 3) rfl))), ?_⟩
    refine ⟨_, rfl, _, rfl, p, CA, dx, [], rfl, hp, T.cl, T.nN, (by show 0 < 1000; decide), ?_⟩
    refine ⟨_, rfl, _, rfl, p, CA, dx, _, rfl, upd_same, T.cl, T.nB, (by show 1 < 1000; decide), ?_⟩
    refine ⟨_, rfl, _, rfl, p, CA, dx, _, rfl, upd_same, T.cl, T.nO, ?_, ?_⟩
    · have e : putF "bars" (iV A.no) (putF "needs" (iV A.pre) []) = [(("needs" : Str), iV A.pre), ("bars", iV A.no)] := (put_past (by decide +kernel)).trans rfl
      rw [e]
      show 2 < 1000
      decide
    · refine k _ (Eq.trans upd_same (congrArg (fun q => some (HO.ins CA dx q)) (actF_new A lo))) fun b o e hb => ?_
      rw [upd_ne hb, upd_ne hb, upd_ne hb]
      exact e
theorem scMay : FnScope ["self", "state"] ["self", "state"] (defScope sMay) := ⟨rfl, rfl, rfl, by decide +kernel, rfl, by decide +kernel, by decide +kernel⟩
theorem ok_may {f : Addr} {fd : FuncData} (F : Fun K "may_be_done" "Act.may_be_done" sMay f fd) (T : TxtA K CA) : FnOk P w K mg base CX0 1 f fd ["self", "state"] (spMay CA) := by
  refine F.ok scMay (fun vs H Q E h => ?_) (fun cdv A outer s H vs Q E hr h => ?_)
  · obtain ⟨p, A, s, rfl, _⟩ := h
    rfl
  · obtain ⟨p, A, s, rfl, ⟨dx, lo, ts, h1, h2, -, -, -, h3⟩, k⟩ := h
    refine ⟨_, pss_one (ps_ret (pe_and (pe_cmpR op_eq (pe_op op_and (pv 1) (pe_fld (pv 0) rfl)) (pe_fld (pv 0) rfl) (nomark _))
      (pe_one (pe_cmpR op_eq (pe_op op_and (pv 1) (pe_fld (pv 0) rfl)) pe_int (nomark _))))), ?_⟩
    refine ⟨_, rfl, _, rfl, p, CA, dx, _, _, rfl, h1, T.cl, T.nN, actF_needs _ _, _, _, rfl, rfl, _, rfl, p, CA, dx, _, _, rfl, h1, T.cl, T.nN, actF_needs _ _, rfl, _, rfl, ?_⟩
    have e1 : decide (V.int (Builtin.bitAnd (s : Int) (A.pre : Int)) = iV A.pre) = (A.pre.land s == A.pre) := by
      have ec : s.land A.pre = A.pre.land s := Nat.and_comm ..
      rw [bnd, iV_eq (a := s.land A.pre), ec]
      rfl
    refine ite_by e1 (fun hc => ?_) (fun hc => ?_)
    · refine ⟨_, rfl, _, rfl, p, CA, dx, _, _, rfl, h1, T.cl, T.nB, actF_bars _ _, _, _, rfl, rfl, rfl, q_bl k ?_⟩
      have ec : s.land A.no = A.no.land s := Nat.and_comm ..
      unfold canA
      rw [hc, Bool.true_and]
      show decide (V.int (Builtin.bitAnd (s : Int) (A.no : Int)) = iV 0) = _
      rw [bnd, iV_eq (a := s.land A.no), ec]
      rfl
    · refine q_bl k ?_
      unfold canA
      rw [hc]
      rfl
theorem scLeads : FnScope ["self", "state", "brings", "takes"] ["self", "state"] (defScope sLeads) := ⟨rfl, rfl, rfl, by decide +kernel, rfl, by decide +kernel, by decide +kernel⟩
theorem take_more {α : Type} {l : List α} {i : Nat} {x : α} (h : l[i]? = some x) : l.take (i + 1) = l.take i ++ [x] := by
  rw [List.take_add_one, h]
  rfl
theorem ok_leads {f : Addr} {fd : FuncData} (F : Fun K "leads_to" "Act.leads_to" sLeads f fd) (T : TxtA K CA) : FnOk P w K mg base CX0 1 f fd ["self", "state"] (spLeads CA) := by
  refine F.ok scLeads (fun vs H Q E h => ?_) (fun cdv A outer s H vs Q E hr h => ?_)
  · obtain ⟨p, A, s, rfl, _⟩ := h
    rfl
  · obtain ⟨p, A, s, rfl, ⟨dx, lo, ts, h1, h2, -, -, -, h3⟩, hlen, k⟩ := h
    refine ⟨_, pss_one (ps_ret (pe_lc (own := [("brings", 2), ("takes", 3)]) (g := gTup K 2 (gCons (gName 2) (gCons (gName 3) gNil))) (tt := tYes) rfl scLeads.nd (pi_list (pe_fld (pv 0) rfl))
      (blkOk_by (N := ["self", "state", "brings", "takes"]) (sc := defScope sLeads) (by decide +kernel))
      (fun _ _ _ _ _ => pg_tup rfl (pgs_cons (pg_name (i := 2) scLeads.nd rfl (Or.inl rfl)) (pgs_cons (pg_name (i := 3) scLeads.nd rfl (Or.inl rfl)) pgs_nil)))
      (fun _ _ _ _ _ => pts_nil)
      (fun _ _ _ _ _ => pe_op op_or (pe_op op_and (pv 1) (pe_un un_inv (pv 3))) (pv 2)))), ?_⟩
    refine ⟨_, rfl, p, CA, dx, _, _, rfl, h1, T.cl, T.nO, actF_outs _ _, lo, rfl, ⟨_, SqL.of h2⟩, fun D hD => ?_⟩
    refine lc_list (K := K) (a := lo) (xs := ts.map V.ref) (fun i H' => H' = upd H D (.lst (((nextA A s).take i).map iV))) ?_ ?_ ?_ ?_
    · rfl
    · rintro i H' hi rfl
      exact SqL.of (by rw [upd_ne (ne_of_none h2 hD)]; exact h2)
    · rintro i x H' hx rfl
      rw [List.getElem?_map] at hx
      cases e : ts[i]? with
      | none => rw [e] at hx; cases hx
      | some tq =>
        rw [e] at hx
        cases hx
        obtain ⟨o, ho, ht⟩ := paired_get' h3 e
        have ht' : upd H D (HO.lst (((nextA A s).take i).map iV)) tq = some (.tup [iV o.1, iV o.2]) := by rw [upd_ne (ne_of_none ht hD)]; exact ht
        have hn : (nextA A s)[i]? = some ((s - s.land o.2).lor o.1) := by unfold nextA; rw [List.getElem?_map, ho]; rfl
        refine ⟨tq, _, rfl, SqT.of ht', rfl, _, _, rfl, _, _, rfl, rfl, rfl, ?_⟩
        refine ⟨_, rfl, _, rfl, _, rfl, _, _, rfl, rfl, _, rfl, _, _, rfl, rfl, _, upd_same, ?_, ?_⟩
        · rw [List.length_map, List.length_take]
          have : (nextA A s).length ≤ 1000 := by unfold nextA; rw [List.length_map]; exact hlen
          exact small1000 (by omega)
        · have eo : V.int (Builtin.bitOr (Builtin.bitAnd (s : Int) (Builtin.bitNot (o.2 : Int))) (o.1 : Int)) = iV ((s - s.land o.2).lor o.1) := by rw [bout]
          rw [take_more hn, List.map_append]
          show upd (upd H D _) D (HO.lst (_ ++ [V.int (Builtin.bitOr (Builtin.bitAnd (s : Int) (Builtin.bitNot (o.2 : Int))) (o.1 : Int))])) = _
          rw [eo]
          funext b
          by_cases hb : b = D
          · rw [hb, upd_same, upd_same]
            rfl
          · rw [upd_ne hb, upd_ne hb, upd_ne hb]
    · rintro H' rfl
      have el : (ts.map V.ref).length = (nextA A s).length := by
        unfold nextA
        rw [List.length_map, List.length_map]
        exact paired_len h3
      rw [el, List.take_length]
      exact k _ D (same_new hD) hD upd_same
end
end Sh
set_option Elab.async false
set_option maxRecDepth 100000
set_option maxHeartbeats 2000000
namespace Sh
open PySem PySem.Spec PyProof.Rows L2
/-- a def of the top that may be called by its name -/
structure Cal (P : Program) (w : World) (K : PySem.W.Frag) (mg : Str → Option Value) (base : Heap) (x : Str) (k : Nat) (ps : List Str) (sp : Sp) (f : Addr) (fd : FuncData) : Prop where
  ok : FnOk P w K mg base CX0 k f fd ps sp
  gl : mg x = some (.ref f)
  kp : PySem.W.keepIn K (.ref f) = true
  bd : Binds K fd ps []
/-- a method -/
structure Mth (P : Program) (w : World) (K : PySem.W.Frag) (mg : Str → Option Value) (base : Heap) (C : Addr) (x : Str) (k : Nat) (ps : List Str) (sp : Sp) (f : Addr) (fd : FuncData) : Prop where
  ok : FnOk P w K mg base CX0 k f fd ps sp
  me : Meth K C x f
  bd : Binds K fd ps []
def oV : Option Nat → V
  | some k => iV k
  | none => .non
theorem oV_isNon (o : Option Nat) : (!decide (oV o = V.non)) = o.isSome := by
  cases o with
  | none => rfl
  | some k => rfl
/-! ### what is read while something is locked -/
theorem rd_same {H H' : Hp} {a : Addr} {u : HO} (h : Rd H a u) (s : Same H H') : Rd H' a u := by
  rcases h with h | ⟨o, h⟩
  · exact .inl (s _ _ h)
  · exact .inr ⟨o, s _ _ h⟩
theorem dget_rd {H : Hp} {d : Addr} {kvs : List (Nat × Nat)} (h : Rd H d (.dK (dN kvs))) (s : Nat) : DGet H d (iV s) ((kvs.lookup s).map iV) := .inl ⟨_, Sum.inl (s : Int), h, rfl, (dN_val kvs s).symm⟩
theorem same_into {H H' : Hp} {p : Addr} {o : HO} (e : Same H H') (h : H p = none) : Same H (upd H' p o) := fun b q z => by
  rw [upd_ne (ne_of_none z h)]
  exact e b q z
/-- behind the lock -/
theorem same_unlock {H H' : Hp} {d : Addr} {u : HO} {od : Obj} (hd : H d = some u) (s : Same (upd H d (.frz od u)) H') : Same H (upd H' d u) := fun b o e => by
  by_cases z : b = d
  · rw [z, upd_same, ← hd, ← z]
    exact e
  · rw [upd_ne z]
    exact s b o (by rw [upd_ne z]; exact e)
theorem rd_lock {H : Hp} {d a : Addr} {u o : HO} {od : Obj} (hd : H d = some u) (mu : Mut (some u)) (h : Rd H a o) : Rd (upd H d (.frz od u)) a o := by
  by_cases z : a = d
  · subst z
    rcases h with h | ⟨q, h⟩
    · rw [hd] at h
      cases h
      exact .inr ⟨od, upd_same⟩
    · rw [hd] at h
      cases h
      exact mu.elim
  · rcases h with h | ⟨q, h⟩
    · exact .inl (by rw [upd_ne z]; exact h)
    · exact .inr ⟨q, by rw [upd_ne z]; exact h⟩
theorem free_lock {H : Hp} {d D : Addr} {u o : HO} (hd : H d = some u) (h : upd H d o D = none) : H D = none ∧ D ≠ d := by
  by_cases z : D = d
  · rw [z, upd_same] at h
    cases h
  · rw [upd_ne z] at h
    exact ⟨h, z⟩
/-! ### promises -/
def spWanted : Sp := fun vs H Q _ => ∃ s g : Nat, vs = [iV s, iV g] ∧ Q (.bl (doneW g s)) H
def spIsUp : Sp := fun vs H Q _ => ∃ (d : Addr) (kvs : List (Nat × Nat)) (s tp : Nat), vs = [iV s, .ref d, iV tp] ∧ Rd H d (.dK (dN kvs)) ∧ Q (.bl (upTo kvs tp s)) H
def spUp (m : Bool) : Sp := fun vs H Q _ => ∃ (a d : Addr) (us : List Nat) (kvs : List (Nat × Nat)) (tp : Nat), vs = [.ref a, .ref d, iV tp] ∧ H a = some (.lst (us.map iV)) ∧ us.length ≤ 1000 ∧ Rd H d (.dK (dN kvs)) ∧
  ∀ H', Same H H' → Q (.bl (srv m us (upTo kvs tp))) H'
section
variable {P : Program} {w : World} {K : PySem.W.Frag} {mg : Str → Option Value} {base : Heap} {CA : Addr}
theorem scWanted : FnScope ["state", "wanted"] ["state", "wanted"] (defScope sWanted) := ⟨rfl, rfl, rfl, by decide +kernel, rfl, by decide +kernel, by decide +kernel⟩
theorem ok_wanted {f : Addr} {fd : FuncData} (F : Fun K "is_as_wanted" "is_as_wanted" sWanted f fd) : FnOk P w K mg base CX0 1 f fd ["state", "wanted"] spWanted := by
  refine F.ok scWanted (fun vs H Q E h => ?_) (fun cdv A outer s H vs Q E hr h => ?_)
  · obtain ⟨s, g, rfl, _⟩ := h
    rfl
  · obtain ⟨s, g, rfl, k⟩ := h
    refine ⟨_, pss_one (ps_ret (pe_cmpR op_eq (pe_op op_and (pv 0) (pv 1)) (pv 1) (nomark _))), ?_⟩
    refine ⟨_, rfl, _, rfl, _, _, rfl, rfl, _, rfl, rfl, q_bl k ?_⟩
    have ec : s.land g = g.land s := Nat.and_comm ..
    show decide (V.int (Builtin.bitAnd (s : Int) (g : Int)) = iV g) = _
    rw [bnd, iV_eq (a := s.land g), ec]
    rfl
theorem scUpTo : FnScope ["state", "levels", "top"] ["state", "levels", "top"] (defScope sUpTo) := ⟨rfl, rfl, rfl, by decide +kernel, rfl, by decide +kernel, by decide +kernel⟩
theorem ok_upto {f : Addr} {fd : FuncData} (F : Fun K "is_up_to" "is_up_to" sUpTo f fd) : FnOk P w K mg base CX0 1 f fd ["state", "levels", "top"] spIsUp := by
  refine F.ok scUpTo (fun vs H Q E h => ?_) (fun cdv A outer s H vs Q E hr h => ?_)
  · obtain ⟨d, kvs, s, tp, rfl, _⟩ := h
    rfl
  · obtain ⟨d, kvs, s, tp, rfl, hd, k⟩ := h
    have hu := hu_of hr
    refine ⟨_, pss_one (ps_ret (pe_and (pe_cmp (pc_din hu (pv 0) (pv 1))) (pe_one (pe_cmpR op_le (pe_dget hu (pv 1) (pv 0) (fun _ _ => rfl)) (pv 2) (nomark _))))), ?_⟩
    refine ⟨_, rfl, _, rfl, d, _, rfl, dget_rd hd s, _, rfl, ?_⟩
    cases hl : kvs.lookup s with
    | none =>
      refine ite_by (c' := false) rfl (fun z => nomatch z) (fun _ => q_bl k ?_)
      unfold upTo
      rw [hl]
    | some n =>
      refine ite_by (c' := true) rfl (fun _ => ?_) (fun z => nomatch z)
      have hg := dget_rd hd s
      rw [hl] at hg
      refine ⟨_, rfl, _, rfl, d, _, rfl, hg, _, rfl, _, _, rfl, rfl, q_bl k ?_⟩
      unfold upTo
      rw [hl]
      exact decide_eq_decide.mpr (by omega)
theorem scAllUp : FnScope ["states", "levels", "top", "state"] ["states", "levels", "top"] (defScope sAllUp) := ⟨rfl, rfl, rfl, by decide +kernel, rfl, by decide +kernel, by decide +kernel⟩
theorem scAnyUp : FnScope ["states", "levels", "top", "state"] ["states", "levels", "top"] (defScope sAnyUp) := ⟨rfl, rfl, rfl, by decide +kernel, rfl, by decide +kernel, by decide +kernel⟩
theorem map_bl_all (us : List Nat) (U : Nat → Bool) : (us.map U).all id = us.all U := by
  rw [List.all_map]
  rfl
theorem map_bl_any (us : List Nat) (U : Nat → Bool) : (us.map U).any id = us.any U := by
  rw [List.any_map]
  rfl
theorem ok_allup {f fU : Addr} {fd fdU : FuncData} (F : Fun K "all_up_to" "all_up_to" sAllUp f fd) (U : Cal P w K mg base "is_up_to" 1 ["state", "levels", "top"] spIsUp fU fdU) (mA : mg "all" = none) : FnOk P w K mg base CX0 2 f fd ["states", "levels", "top"] (spUp true) := by
  refine F.ok scAllUp (fun vs H Q E h => ?_) (fun cdv A outer s H vs Q E hr h => ?_)
  · obtain ⟨a, d, us, kvs, tp, rfl, _⟩ := h
    rfl
  · obtain ⟨a, d, us, kvs, tp, rfl, hS, hlen, hd, k⟩ := h
    refine ⟨_, pss_one (ps_ret (pe_callB (cr_all rfl) (by rfl) mA (by decide +kernel) (pa_cons (pe_lc (own := [("state", 3)]) (g := gName 3) (tt := tYes) rfl scAllUp.nd (pi_list (pv 0))
      (blkOk_by (N := ["states", "levels", "top", "state"]) (sc := defScope sAllUp) (by decide +kernel))
      (fun _ _ _ _ _ => pg_name (i := 3) scAllUp.nd rfl (Or.inl rfl))
      (fun _ _ _ _ _ => pts_nil)
      (fun _ _ _ _ _ => pe_call U.ok hr rfl U.gl U.kp U.bd .nil pass0 (pa_cons (pv 3) (pa_cons (pv 1) (pa_cons (pv 2) pa_nil))))) pa_nil))), ?_⟩
    refine ⟨_, rfl, a, rfl, ⟨_, SqL.of hS⟩, fun D hD => ?_⟩
    refine lc_list (K := K) (a := a) (xs := us.map iV) (fun i H' => Same H H' ∧ H' D = some (.lst (((us.map (upTo kvs tp)).take i).map V.bl))) ?_ ?_ ?_ ?_
    · exact ⟨same_new hD, upd_same⟩
    · rintro i H' hi ⟨hs, _⟩
      exact SqL.of (hs _ _ hS)
    · rintro i x H' hx ⟨hs, hl⟩
      rw [List.getElem?_map] at hx
      cases e : us[i]? with
      | none => rw [e] at hx; cases hx
      | some u =>
        rw [e] at hx
        cases hx
        refine ⟨rfl, _, rfl, _, rfl, _, rfl, d, kvs, u, tp, rfl, rd_same hd hs, _, hl, ?_, same_into hs hD, ?_⟩
        · rw [List.length_map, List.length_take, List.length_map]
          exact small1000 (by omega)
        · rw [upd_same, take_more (l := us.map (upTo kvs tp)) (x := upTo kvs tp u) (by rw [List.getElem?_map, e]; rfl), List.map_append]
          rfl
    · rintro H' ⟨hs, hl⟩
      rw [List.length_map, show us.length = (us.map (upTo kvs tp)).length by rw [List.length_map], List.take_length] at hl
      exact ⟨D, _, rfl, SqL.of hl, q_bl (k H' hs) (map_bl_all us _)⟩
theorem ok_anyup {f fU : Addr} {fd fdU : FuncData} (F : Fun K "any_up_to" "any_up_to" sAnyUp f fd) (U : Cal P w K mg base "is_up_to" 1 ["state", "levels", "top"] spIsUp fU fdU) (mA : mg "any" = none) : FnOk P w K mg base CX0 2 f fd ["states", "levels", "top"] (spUp false) := by
  refine F.ok scAnyUp (fun vs H Q E h => ?_) (fun cdv A outer s H vs Q E hr h => ?_)
  · obtain ⟨a, d, us, kvs, tp, rfl, _⟩ := h
    rfl
  · obtain ⟨a, d, us, kvs, tp, rfl, hS, hlen, hd, k⟩ := h
    refine ⟨_, pss_one (ps_ret (pe_callB (cr_any rfl) (by rfl) mA (by decide +kernel) (pa_cons (pe_lc (own := [("state", 3)]) (g := gName 3) (tt := tYes) rfl scAnyUp.nd (pi_list (pv 0))
      (blkOk_by (N := ["states", "levels", "top", "state"]) (sc := defScope sAnyUp) (by decide +kernel))
      (fun _ _ _ _ _ => pg_name (i := 3) scAnyUp.nd rfl (Or.inl rfl))
      (fun _ _ _ _ _ => pts_nil)
      (fun _ _ _ _ _ => pe_call U.ok hr rfl U.gl U.kp U.bd .nil pass0 (pa_cons (pv 3) (pa_cons (pv 1) (pa_cons (pv 2) pa_nil))))) pa_nil))), ?_⟩
    refine ⟨_, rfl, a, rfl, ⟨_, SqL.of hS⟩, fun D hD => ?_⟩
    refine lc_list (K := K) (a := a) (xs := us.map iV) (fun i H' => Same H H' ∧ H' D = some (.lst (((us.map (upTo kvs tp)).take i).map V.bl))) ?_ ?_ ?_ ?_
    · exact ⟨same_new hD, upd_same⟩
    · rintro i H' hi ⟨hs, _⟩
      exact SqL.of (hs _ _ hS)
    · rintro i x H' hx ⟨hs, hl⟩
      rw [List.getElem?_map] at hx
      cases e : us[i]? with
      | none => rw [e] at hx; cases hx
      | some u =>
        rw [e] at hx
        cases hx
        refine ⟨rfl, _, rfl, _, rfl, _, rfl, d, kvs, u, tp, rfl, rd_same hd hs, _, hl, ?_, same_into hs hD, ?_⟩
        · rw [List.length_map, List.length_take, List.length_map]
          exact small1000 (by omega)
        · rw [upd_same, take_more (l := us.map (upTo kvs tp)) (x := upTo kvs tp u) (by rw [List.getElem?_map, e]; rfl), List.map_append]
          rfl
    · rintro H' ⟨hs, hl⟩
      rw [List.length_map, show us.length = (us.map (upTo kvs tp)).length by rw [List.length_map], List.take_length] at hl
      exact ⟨D, _, rfl, SqL.of hl, q_bl (k H' hs) (map_bl_any us _)⟩
end
end Sh
set_option Elab.async false
set_option maxRecDepth 100000
set_option maxHeartbeats 2000000
namespace Sh
open PySem PySem.Spec PyProof.Rows L2
/-! ### dicts from numbers to things in the heap -/
def dR (p : Nat → Addr) (ks : List Nat) : List (Key × V) := ks.map fun k : Nat => (Sum.inl (k : Int), V.ref (p k))
def setA (p : Nat → Addr) (s : Nat) (q : Addr) : Nat → Addr := fun j => if j = s then q else p j
theorem setA_same (p : Nat → Addr) (s : Nat) (q : Addr) : setA p s q s = q := if_pos rfl
theorem setA_ne {p : Nat → Addr} {s j : Nat} {q : Addr} (h : j ≠ s) : setA p s q j = p j := if_neg h
theorem dR_len (p : Nat → Addr) (ks : List Nat) : (dR p ks).length = ks.length := by
  unfold dR
  rw [List.length_map]
theorem dR_get {p : Nat → Addr} {ks : List Nat} {i k : Nat} (h : ks[i]? = some k) : (dR p ks)[i]? = some (Sum.inl (k : Int), V.ref (p k)) := by
  unfold dR
  rw [List.getElem?_map, h]
  rfl
theorem dR_val (p : Nat → Addr) (ks : List Nat) (s : Nat) : valV (dR p ks) (Sum.inl (s : Int)) = if s ∈ ks then some (V.ref (p s)) else none := by
  induction ks with
  | nil => rfl
  | cons k r ih =>
    by_cases e : k = s
    · subst e
      have h1 : valV (dR p (k :: r)) (Sum.inl (k : Int)) = some (V.ref (p k)) := valV_pos rfl
      rw [h1, if_pos (List.mem_cons_self ..)]
    · have h1 : valV (dR p (k :: r)) (Sum.inl (s : Int)) = valV (dR p r) (Sum.inl (s : Int)) := valV_neg (by
        show ¬ (Sum.inl (k : Int) : Key) = Sum.inl (s : Int)
        intro z
        injection z with z
        omega)
      rw [h1, ih]
      by_cases m : s ∈ r
      · rw [if_pos m, if_pos (List.mem_cons_of_mem _ m)]
      · rw [if_neg m, if_neg fun z => (List.mem_cons.mp z).elim (fun z => e z.symm) m]
theorem dR_put {p : Nat → Addr} {ks : List Nat} {s : Nat} (q : Addr) (h : s ∉ ks) : putK (dR p ks) (Sum.inl (s : Int)) (V.ref q) = dR (setA p s q) (ks ++ [s]) := by
  have e : valV (dR p ks) (Sum.inl (s : Int)) = none := by rw [dR_val, if_neg h]
  rw [putK_new _ e]
  unfold dR
  rw [List.map_append]
  congr 1
  · refine List.map_congr_left fun k hk => ?_
    rw [setA_ne fun z => h (by rw [← z]; exact hk)]
  · show [((Sum.inl (s : Int) : Key), V.ref q)] = [(Sum.inl (s : Int), V.ref (setA p s q s))]
    rw [setA_same]
theorem dget_ref {H : Hp} {d : Addr} {p : Nat → Addr} {ks : List Nat} (h : Rd H d (.dK (dR p ks))) {s : Nat} (hs : s ∈ ks) : DGet H d (iV s) (some (V.ref (p s))) := .inl ⟨_, Sum.inl (s : Int), h, rfl, by rw [dR_val, if_pos hs]⟩
/-! ### ways in the heap -/
/-- the ways of one state -/
def HereAt (H : Hp) (a : Addr) (w : Here) : Prop := ∃ p : Nat → Addr, H a = some (.dK (dR p (w.map (·.1)))) ∧ ∀ x ∈ w, H (p x.1) = some (.lst (x.2.map iV))
def WaysAt (H : Hp) (d : Addr) (B : List Nat) (here : Nat → Here) : Prop := ∃ p : Nat → Addr, H d = some (.dK (dR p B)) ∧ ∀ s ∈ B, p s ≠ d ∧ HereAt H (p s) (here s)
theorem HereAt.same {H H' : Hp} {a : Addr} {w : Here} (h : HereAt H a w) (s : Same H H') : HereAt H' a w := by
  obtain ⟨p, h1, h2⟩ := h
  exact ⟨p, s _ _ h1, fun x hx => s _ _ (h2 x hx)⟩
theorem WaysAt.same {H H' : Hp} {d : Addr} {B : List Nat} {here : Nat → Here} (h : WaysAt H d B here) (s : Same H H') : WaysAt H' d B here := by
  obtain ⟨p, h1, h2⟩ := h
  exact ⟨p, s _ _ h1, fun u hu => ⟨(h2 u hu).1, (h2 u hu).2.same s⟩⟩
theorem lst_ne {H : Hp} {a d : Addr} {xs : List V} {kvs : List (Key × V)} (h : H a = some (.lst xs)) (hd : H d = some (.dK kvs)) : a ≠ d := ne_of h hd (by intro z; cases z)
/-- a write to another dict -/
theorem HereAt.other {H : Hp} {a d : Addr} {w : Here} {kvs : List (Key × V)} {o : HO} (h : HereAt H a w) (hne : a ≠ d) (hd : H d = some (.dK kvs)) : HereAt (upd H d o) a w := by
  obtain ⟨p, h1, h2⟩ := h
  exact ⟨p, by rw [upd_ne hne]; exact h1, fun x hx => by rw [upd_ne (lst_ne (h2 x hx) hd)]; exact h2 x hx⟩
/-- what ways_in gives: the first i acts -/
def hereA (acts : List Pn07.Act) (s i : Nat) : Here := ((List.range i).filter fun k => canA (actOf acts k) s).map fun k => (k, nextA (actOf acts k) s)
theorem hereA_T (t : Pn07.Task) (s : Nat) : hereA t.acts s t.acts.length = hereT t s := by
  unfold hereA hereT Pn07.Task.cans
  have : (List.range t.acts.length).filter (fun k => canA (actOf t.acts k) s) = (List.range t.acts.length).filter (t.can s) := List.filter_congr fun k hk => (can_canA (List.mem_range.mp hk)).symm
  rw [this]
  rfl
theorem all_range_snoc (i : Nat) (p : Nat → Bool) : (List.range (i + 1)).filter p = (List.range i).filter p ++ if p i = true then [i] else [] := by
  rw [List.range_succ, List.filter_append, List.filter_cons, List.filter_nil]
theorem hereA_keys (acts : List Pn07.Act) (s i : Nat) : (hereA acts s i).map (·.1) = (List.range i).filter fun k => canA (actOf acts k) s := by
  unfold hereA
  rw [List.map_map]
  exact List.map_id' _
theorem hereA_yes {acts : List Pn07.Act} {s i : Nat} (h : canA (actOf acts i) s = true) : hereA acts s (i + 1) = hereA acts s i ++ [(i, nextA (actOf acts i) s)] := by
  unfold hereA
  rw [all_range_snoc, if_pos h, List.map_append]
  rfl
theorem hereA_no {acts : List Pn07.Act} {s i : Nat} (h : canA (actOf acts i) s = false) : hereA acts s (i + 1) = hereA acts s i := by
  unfold hereA
  rw [all_range_snoc, if_neg (by rw [h]; exact Bool.false_ne_true), List.append_nil]
/-- one more entry -/
theorem HereAt.put {H : Hp} {a q : Addr} {w : Here} {k : Nat} {us : List Nat} {p : Nat → Addr} (h1 : H a = some (.dK (dR p (w.map (·.1))))) (h2 : ∀ x ∈ w, H (p x.1) = some (.lst (x.2.map iV))) (hk : k ∉ w.map (·.1)) (hq : H q = some (.lst (us.map iV))) :
    HereAt (upd H a (.dK (putK (dR p (w.map (·.1))) (Sum.inl (k : Int)) (V.ref q)))) a (w ++ [(k, us)]) := by
  refine ⟨setA p k q, ?_, fun x hx => ?_⟩
  · rw [upd_same, dR_put q hk, List.map_append]
    rfl
  · rcases List.mem_append.mp hx with z | z
    · have : x.1 ≠ k := fun e => hk (List.mem_map.mpr ⟨x, z, e⟩)
      rw [setA_ne this, upd_ne (lst_ne (h2 x z) h1)]
      exact h2 x z
    · rw [List.mem_singleton.mp z, setA_same, upd_ne (lst_ne hq h1)]
      exact hq
theorem actsAt_get {CA : Addr} {S : Addr → Prop} {H : Hp} {la : Addr} {acts : List Pn07.Act} (h : ActsAt CA S H la acts) : ∃ ps : List Addr, H la = some (.lst (ps.map V.ref)) ∧ ps.length = acts.length ∧ ∀ i p, ps[i]? = some p → ActAt CA S H p (actOf acts i) ∧ actOf acts i ∈ acts := by
  obtain ⟨ps, h1, h2⟩ := h
  refine ⟨ps, h1, paired_len h2, fun i p hp => ?_⟩
  obtain ⟨b, hb, q⟩ := paired_get' h2 hp
  have e : actOf acts i = b := by
    unfold actOf
    rw [List.getD_eq_getElem?_getD, hb]
    rfl
  rw [e]
  exact ⟨q, List.mem_of_getElem? hb⟩
def spWaysIn (CA : Addr) : Sp := fun vs H Q _ => ∃ (la : Addr) (acts : List Pn07.Act) (s : Nat), vs = [.ref la, iV s] ∧ ActsAt CA (fun _ => True) H la acts ∧ (∀ a ∈ acts, a.outs.length ≤ 1000) ∧ acts.length ≤ 1000 ∧
  ∀ (H' : Hp) (q : Addr), Same H H' → H q = none → HereAt H' q (hereA acts s acts.length) → Q (.ref q) H'
def spWaysOf (CA : Addr) : Sp := fun vs H Q _ => ∃ (la : Addr) (acts : List Pn07.Act) (N : Nat), vs = [.ref la, iV N] ∧ ActsAt CA (fun _ => True) H la acts ∧ (∀ a ∈ acts, a.outs.length ≤ 1000) ∧ acts.length ≤ 1000 ∧ N ≤ 1000 ∧
  ∀ (H' : Hp) (q : Addr), Same H H' → H q = none → WaysAt H' q (List.range N) (fun s => hereA acts s acts.length) → Q (.ref q) H'
section
variable {P : Program} {w : World} {K : PySem.W.Frag} {mg : Str → Option Value} {base : Heap} {CA : Addr}
theorem scWaysIn : FnScope ["acts", "state", "ways_here", "number", "act"] ["acts", "state"] (defScope sWaysIn) := ⟨rfl, rfl, rfl, by decide +kernel, rfl, by decide +kernel, by decide +kernel⟩
theorem ok_waysin {f fM fL : Addr} {fd fdM fdL : FuncData} (F : Fun K "ways_in" "ways_in" sWaysIn f fd) (TA : TxtA K CA) (M : Mth P w K mg base CA "may_be_done" 1 ["self", "state"] (spMay CA) fM fdM) (L : Mth P w K mg base CA "leads_to" 1 ["self", "state"] (spLeads CA) fL fdL)
    (mE : mg "enumerate" = none) : FnOk P w K mg base CX0 2 f fd ["acts", "state"] (spWaysIn CA) := by
  refine F.ok scWaysIn (fun vs H Q E h => ?_) (fun cdv A outer s H vs Q E hr h => ?_)
  · obtain ⟨la, acts, s, rfl, _⟩ := h
    rfl
  · obtain ⟨la, acts, s, rfl, hA, hO, hN, k⟩ := h
    have hu := hu_of hr
    refine ⟨_, pss_cons (ps_set (i := 2) scWaysIn.nd rfl (Or.inl rfl) pe_dnewK)
      (pss_cons (ps_for PassesOwn.never rfl (pi_enum (by rfl) mE (pa_cons (pv 0) pa_nil)) (pg_tup rfl (pgs_cons (pg_name (i := 3) scWaysIn.nd rfl (Or.inl rfl)) (pgs_cons (pg_name (i := 4) scWaysIn.nd rfl (Or.inl rfl)) pgs_nil)))
        (pss_one (ps_if (pt_val (pe_meth (pv 4) TA.cl M.me M.ok hr M.bd .nil pass0 (pa_cons (pv 1) pa_nil)))
          (pss_one (ps_dput hu (pv 2) (pv 3) (pe_meth (pv 4) TA.cl L.me L.ok hr L.bd .nil pass0 (pa_cons (pv 1) pa_nil)) rfl)) pss_nil)))
      (pss_one (ps_ret (pv 2)))), ?_⟩
    intro d hd
    obtain ⟨ps, hl, hlen, hps⟩ := actsAt_get hA
    have n0 : Same H (upd H d (.dK [])) := same_new hd
    refine ⟨_, rfl, la, _, rfl, SqL.of (n0 _ _ hl), for_it (walk_enum (K := K) (a := la) (xs := ps.map V.ref)) (fun i σ H' => ∃ v u : Option V, σ = [some (.ref la), some (iV s), some (.ref d), v, u] ∧ Same H H' ∧ HereAt H' d (hereA acts s i)) ?_ ?_ ?_ ?_⟩
    · exact ⟨none, none, rfl, n0, fun _ => 0, upd_same, fun x hx => absurd hx List.not_mem_nil⟩
    · rintro i σ H' hi ⟨v, u, rfl, hs, _⟩
      exact hs.seq (SqL.of hl)
    · rintro i x σ H1 H' hi ⟨v, u, rfl, hs, hh⟩ ⟨tq, y, z, rfl, hT, rfl, hy, hz⟩
      cases hy
      have hz : (ps.map V.ref)[i]? = some z := hz
      rw [List.getElem?_map] at hz
      cases e : ps[i]? with
      | none => rw [e] at hz; cases hz
      | some p =>
        rw [e] at hz
        cases hz
        have hn1 : Same H1 (upd H1 tq (.tup [iV i, .ref p])) := same_new hT
        have hs2 : Same H (upd H1 tq (.tup [iV i, .ref p])) := hs.trans hn1
        have hh2 := hh.same hn1
        obtain ⟨hp, hm⟩ := hps i p e
        have hp2 := hp.keep (H' := upd H1 tq (.tup [iV i, .ref p])) fun b o _ q => hs2 b o q
        refine ⟨tq, _, rfl, SqT.of upd_same, rfl, _, _, rfl, _, _, rfl, rfl, ?_⟩
        obtain ⟨dx, lo, ts, h1, h2⟩ := id hp2
        refine ⟨_, rfl, p, dx, _, rfl, h1, actF_may _ _, _, rfl, p, _, s, rfl, hp2, _, rfl, ?_⟩
        refine ite_by rfl (fun hc => ?_) (fun hc => ?_)
        · refine ⟨_, rfl, p, dx, _, rfl, h1, actF_leads _ _, _, rfl, p, _, s, rfl, hp2, hO _ hm, fun H3 q hs3 hq hq3 => ?_⟩
          obtain ⟨pp, g1, g2⟩ := hh2.same hs3
          have hi' : i < acts.length := by rw [← hlen]; rw [List.length_map] at hi; exact hi
          have hno : i ∉ (hereA acts s i).map (·.1) := by
            rw [hereA_keys]
            intro z
            have := List.mem_range.mp (List.mem_filter.mp z).1
            omega
          refine ⟨_, rfl, _, rfl, d, _, rfl, DPut.k (k := Sum.inl (i : Int)) g1 ?_, _, _, rfl, ?_, ?_⟩
          · rw [dR_len, hereA_keys]
            have := List.length_filter_le (fun k => canA (actOf acts k) s) (List.range i)
            rw [List.length_range] at this
            exact small1000 (by omega)
          · exact same_into (hs2.trans hs3) hd
          · rw [hereA_yes hc]
            exact HereAt.put g1 g2 hno hq3
        · refine ⟨_, _, rfl, hs2, ?_⟩
          rw [hereA_no hc]
          exact hh2
    · rintro σ H' ⟨v, u, rfl, hs, hh⟩
      rw [List.length_map, hlen] at hh
      exact ⟨_, rfl, k H' d hs hd hh⟩
theorem scWaysOf : FnScope ["acts", "how_many", "ways", "state"] ["acts", "how_many"] (defScope sWaysOf) := ⟨rfl, rfl, rfl, by decide +kernel, rfl, by decide +kernel, by decide +kernel⟩
theorem ok_waysof {f fW : Addr} {fd fdW : FuncData} (F : Fun K "ways_of" "ways_of" sWaysOf f fd) (W : Cal P w K mg base "ways_in" 2 ["acts", "state"] (spWaysIn CA) fW fdW) (mR : mg "range" = none) : FnOk P w K mg base CX0 3 f fd ["acts", "how_many"] (spWaysOf CA) := by
  refine F.ok scWaysOf (fun vs H Q E h => ?_) (fun cdv A outer s H vs Q E hr h => ?_)
  · obtain ⟨la, acts, N, rfl, _⟩ := h
    rfl
  · obtain ⟨la, acts, N, rfl, hA, hO, hL, hN, k⟩ := h
    have hu := hu_of hr
    refine ⟨_, pss_cons (ps_set (i := 2) scWaysOf.nd rfl (Or.inl rfl) pe_dnewK)
      (pss_cons (ps_for PassesOwn.never rfl (pi_range1 rfl mR (pa_cons (pv 1) pa_nil)) (pg_name (i := 3) scWaysOf.nd rfl (Or.inl rfl))
        (pss_one (ps_dput hu (pv 2) (pv 3) (pe_call W.ok hr rfl W.gl W.kp W.bd .nil pass0 (pa_cons (pv 0) (pa_cons (pv 3) pa_nil))) rfl)))
      (pss_one (ps_ret (pv 2)))), ?_⟩
    intro d hd
    have n0 : Same H (upd H d (.dK [])) := same_new hd
    refine ⟨_, rfl, (N : Int), rfl, by omega, by omega, for_range (lo := 0) (n := (N : Int).toNat) (fun i σ H' => ∃ v : Option V, σ = [some (.ref la), some (iV N), some (.ref d), v] ∧ Same H H' ∧ WaysAt H' d (List.range i) (fun s => hereA acts s acts.length)) ?_ ?_ ?_⟩
    · exact ⟨none, rfl, n0, fun _ => 0, upd_same, fun s hs => absurd hs List.not_mem_nil⟩
    · rintro i σ H' hi ⟨v, rfl, hs, p, h1, h2⟩
      have e0 : (0 : Int) + (i : Int) = (i : Int) := Int.zero_add _
      rw [e0]
      refine ⟨_, rfl, _, rfl, la, acts, i, rfl, hA.same hs, hO, hL, fun H2 q hs2 hq hh => ?_⟩
      have h1' := hs2 _ _ h1
      have hqd : q ≠ d := fun z => by rw [z, h1] at hq; cases hq
      have hno : i ∉ List.range i := fun z => by
        have := List.mem_range.mp z
        omega
      refine ⟨_, rfl, _, rfl, d, _, rfl, DPut.k (k := Sum.inl (i : Int)) h1' ?_, _, rfl, same_into (hs.trans hs2) hd, setA p i q, ?_, fun s hs' => ?_⟩
      · rw [dR_len, List.length_range]
        rw [Int.toNat_natCast] at hi
        exact small1000 (by omega)
      · rw [upd_same, List.range_succ]
        exact congrArg (fun z => some (HO.dK z)) (dR_put q hno)
      · rw [List.range_succ] at hs'
        rcases List.mem_append.mp hs' with z | z
        · have hne : s ≠ i := fun e => hno (e ▸ z)
          rw [setA_ne hne]
          exact ⟨(h2 s z).1, ((h2 s z).2.same hs2).other (h2 s z).1 h1'⟩
        · rw [List.mem_singleton.mp z, setA_same]
          exact ⟨hqd, hh.other hqd h1'⟩
    · rintro σ H' ⟨v, rfl, hs, hW⟩
      rw [Int.toNat_natCast] at hW
      exact ⟨_, rfl, k H' d hs hd hW⟩
end
end Sh
set_option Elab.async false
set_option maxRecDepth 100000
set_option maxHeartbeats 2000000
namespace Sh
open PySem PySem.Spec PyProof.Rows L2
theorem find_here {α : Type} {l : List α} {p : α → Bool} {i : Nat} {x : α} (h : l[i]? = some x) (n : (l.take i).find? p = none) (hp : p x = true) : l.find? p = some x := by
  obtain ⟨hi, e⟩ := List.getElem?_eq_some_iff.mp h
  have : (l.take i ++ l.drop i).find? p = some x := by
    rw [List.find?_append, n, Option.none_or, List.drop_eq_getElem_cons hi, e, List.find?_cons_of_pos hp]
  rw [List.take_append_drop] at this
  exact this
theorem find_more {α : Type} {l : List α} {p : α → Bool} {i : Nat} {x : α} (h : l[i]? = some x) (n : (l.take i).find? p = none) (hp : p x = false) : (l.take (i + 1)).find? p = none := by
  rw [take_more h, List.find?_append, n, Option.none_or, List.find?_cons_of_neg (by rw [hp]; exact Bool.false_ne_true)]
  rfl
theorem filter_more {α : Type} {l : List α} {p : α → Bool} {i : Nat} {x : α} (h : l[i]? = some x) : (l.take (i + 1)).filter p = (l.take i).filter p ++ if p x = true then [x] else [] := by
  rw [take_more h, List.filter_append, List.filter_cons, List.filter_nil]
theorem get_some {α : Type} {l : List α} {i : Nat} (h : i < l.length) : ∃ x, l[i]? = some x := ⟨l[i], List.getElem?_eq_getElem h⟩
/-- what a walk over such a dict's pairs gives -/
theorem item_here {w : Here} {p : Nat → Addr} {i : Nat} {y z : V} (hi : i < (dR p (w.map (·.1))).length) (hy : ((dR p (w.map (·.1)))[i]?.map fun kv => kV kv.1) = some y) (hz : (dR p (w.map (·.1)))[i]?.map Prod.snd = some z) :
    ∃ x, w[i]? = some x ∧ y = iV x.1 ∧ z = .ref (p x.1) := by
  rw [dR_len, List.length_map] at hi
  obtain ⟨x, hx⟩ := get_some hi
  have e := dR_get (p := p) (ks := w.map (·.1)) (i := i) (k := x.1) (by rw [List.getElem?_map, hx]; rfl)
  rw [e] at hy hz
  cases hy
  cases hz
  exact ⟨x, hx, rfl, rfl⟩
def spLow (m : Bool) (fs : Addr) : Sp := fun vs H Q _ => ∃ (a d : Addr) (w : Here) (kvs : List (Nat × Nat)) (tp : Nat), vs = [.ref a, .ref d, iV tp, .ref fs] ∧ HereAt H a w ∧ (∀ x ∈ w, x.2.length ≤ 1000) ∧ Rd H d (.dK (dN kvs)) ∧
  ∀ H', Same H H' → Q (oV (lowW m w (upTo kvs tp))) H'
def spAbove (m : Bool) (fs : Addr) : Sp := fun vs H Q _ => ∃ (wd d : Addr) (B : List Nat) (here : Nat → Here) (kvs : List (Nat × Nat)) (tp : Nat), vs = [.ref wd, .ref d, iV tp, .ref fs] ∧ WaysAt H wd B here ∧ GoodW B here ∧ Rd H d (.dK (dN kvs)) ∧
  ∀ (H' : Hp) (q : Addr), Same H H' → H q = none → H' q = some (.lst ((aboveW m B here kvs tp).map iV)) → Q (.ref q) H'
theorem GoodW.short {B : List Nat} {here : Nat → Here} (G : GoodW B here) {s : Nat} (hs : s ∈ B) : ∀ x ∈ here s, x.2.length ≤ 1000 := fun x hx => Nat.le_trans (G.most s hs x hx) (by decide)
section
variable {P : Program} {w : World} {K : PySem.W.Frag} {mg : Str → Option Value} {base : Heap} {CA : Addr} {m : Bool} {fs : Addr} {fds : FuncData} {ns : Str}
theorem scLow : FnScope ["ways_here", "levels", "top", "serves", "number", "states"] ["ways_here", "levels", "top", "serves"] (defScope sLow) := ⟨rfl, rfl, rfl, by decide +kernel, rfl, by decide +kernel, by decide +kernel⟩
theorem ok_low {f : Addr} {fd : FuncData} (F : Fun K "lowest_act" "lowest_act" sLow f fd) (U : Cal P w K mg base ns 2 ["states", "levels", "top"] (spUp m) fs fds) : FnOk P w K mg base CX0 3 f fd ["ways_here", "levels", "top", "serves"] (spLow m fs) := by
  refine F.ok scLow (fun vs H Q E h => ?_) (fun cdv A outer s H vs Q E hr h => ?_)
  · obtain ⟨a, d, w, kvs, tp, rfl, _⟩ := h
    rfl
  · obtain ⟨a, d, w, kvs, tp, rfl, ⟨p, h1, h2⟩, hsh, hd, k⟩ := h
    refine ⟨_, pss_cons (ps_lock (ps_for PassesOwn.never rfl (pi_items (pv 0)) (pg_tup rfl (pgs_cons (pg_name (i := 4) scLow.nd rfl (Or.inl rfl)) (pgs_cons (pg_name (i := 5) scLow.nd rfl (Or.inl rfl)) pgs_nil)))
      (pss_one (ps_if (pt_val (pe_callL (i := 3) U.ok hr rfl (Or.inl rfl) U.kp U.bd .nil pass0 (pa_cons (pv 5) (pa_cons (pv 1) (pa_cons (pv 2) pa_nil))))) (pss_one (ps_ret (pv 4))) pss_nil))))
      (pss_one (ps_ret pe_non)), ?_⟩
    let test : Nat × List Nat → Bool := fun x => srv m x.2 (upTo kvs tp)
    refine ⟨a, _, h1, trivial, fun od => ?_⟩
    have hdl := rd_lock (od := od) h1 trivial hd
    have hll : ∀ x ∈ w, upd H a (.frz od (.dK (dR p (w.map (·.1))))) (p x.1) = some (.lst (x.2.map iV)) := fun x hx => by
      rw [upd_ne (lst_ne (h2 x hx) h1)]
      exact h2 x hx
    have hal : upd H a (.frz od (.dK (dR p (w.map (·.1))))) a = some (.frz od (.dK (dR p (w.map (·.1))))) := upd_same
    have hun : ∀ {H'}, Same (upd H a (.frz od (.dK (dR p (w.map (·.1)))))) H' → Same H (upd H' a (.dK (dR p (w.map (·.1))))) := fun s => same_unlock h1 s
    generalize upd H a (.frz od (.dK (dR p (w.map (·.1))))) = HL at hdl hll hal hun ⊢
    refine ⟨_, rfl, a, od, _, rfl, hal, for_it walk_items (fun i σ H' => ∃ v u : Option V, σ = [some (.ref a), some (.ref d), some (iV tp), some (.ref fs), v, u] ∧ Same HL H' ∧ (w.take i).find? test = none) ?_ ?_ ?_ ?_⟩
    · exact ⟨none, none, rfl, Same.refl _, rfl⟩
    · rintro i σ H' hi ⟨v, u, rfl, hs, _⟩
      exact hs _ _ hal
    · rintro i x σ H1 H' hi ⟨v, u, rfl, hs, hn⟩ ⟨tq, y, z, rfl, hT, rfl, hy, hz⟩
      obtain ⟨x, hx, rfl, rfl⟩ := item_here hi hy hz
      have hxm := List.mem_of_getElem? hx
      have hs2 := hs.trans (same_new (o := .tup [iV x.1, .ref (p x.1)]) hT)
      refine ⟨tq, _, rfl, SqT.of upd_same, rfl, _, _, rfl, _, _, rfl, rfl, ?_⟩
      refine ⟨rfl, _, rfl, _, rfl, _, rfl, p x.1, d, x.2, kvs, tp, rfl, hs2 _ _ (hll x hxm), hsh x hxm, rd_same hdl hs2, fun H3 hs3 => ⟨_, rfl, ?_⟩⟩
      have hs4 := hs2.trans hs3
      refine ite_by rfl (fun hc => ?_) (fun hc => ?_)
      · refine ⟨_, rfl, hs4 _ _ hal, q_of (k _ (hun hs4)) ?_⟩
        unfold lowW
        rw [find_here hx hn hc]
        rfl
      · exact ⟨_, _, rfl, hs4, find_more hx hn hc⟩
    · rintro σ H' ⟨v, u, rfl, hs, hn⟩
      rw [dR_len, List.length_map, List.take_length] at hn
      refine ⟨hs _ _ hal, q_of (k _ (hun hs)) ?_⟩
      unfold lowW
      rw [hn]
      rfl
theorem scAbove : FnScope ["ways", "levels", "top", "serves", "state"] ["ways", "levels", "top", "serves"] (defScope sAbove) := ⟨rfl, rfl, rfl, by decide +kernel, rfl, by decide +kernel, by decide +kernel⟩
theorem ok_above {f fL : Addr} {fd fdL : FuncData} (F : Fun K "states_above" "states_above" sAbove f fd) (L : Cal P w K mg base "lowest_act" 3 ["ways_here", "levels", "top", "serves"] (spLow m fs) fL fdL) : FnOk P w K mg base CX0 4 f fd ["ways", "levels", "top", "serves"] (spAbove m fs) := by
  refine F.ok scAbove (fun vs H Q E h => ?_) (fun cdv A outer s H vs Q E hr h => ?_)
  · obtain ⟨wd, d, B, here, kvs, tp, rfl, _⟩ := h
    rfl
  · obtain ⟨wd, d, B, here, kvs, tp, rfl, ⟨p, h1, h2⟩, G, hd, k⟩ := h
    have hu := hu_of hr
    refine ⟨_, pss_one (ps_ret (pe_lock (pe_lc (own := [("state", 4)]) (g := gName 4) rfl scAbove.nd (pi_keys (pv 0))
      (blkOk_by (N := ["ways", "levels", "top", "serves", "state"]) (sc := defScope sAbove) (by decide +kernel))
      (fun _ _ _ _ _ => pg_name (i := 4) scAbove.nd rfl (Or.inl rfl))
      (fun _ _ _ _ _ => pts_one (PW.pt (pw_and (pt_cmp (pc_dnotin hu (pv 4) (pv 1))) (pw_and1 (pt_cmpR op_notN (pe_call L.ok hr rfl L.gl L.kp L.bd .nil pass0 (pa_cons (pe_dget hu (pv 0) (pv 4) (fun _ _ => rfl)) (pa_cons (pv 1) (pa_cons (pv 2) (pa_cons (pv 3) pa_nil))))) pe_non (nomark _))))))
      (fun _ _ _ _ _ => pv 4)))), ?_⟩
    refine ⟨wd, _, h1, trivial, fun od => ?_⟩
    have hdl := rd_lock (od := od) h1 trivial hd
    have hwl := rd_lock (od := od) h1 trivial (Rd.of h1)
    have hhl : ∀ s ∈ B, HereAt (upd H wd (.frz od (.dK (dR p B)))) (p s) (here s) := fun s hs => (h2 s hs).2.other (h2 s hs).1 h1
    have hal : upd H wd (.frz od (.dK (dR p B))) wd = some (.frz od (.dK (dR p B))) := upd_same
    have hun : ∀ {H'}, Same (upd H wd (.frz od (.dK (dR p B)))) H' → Same H (upd H' wd (.dK (dR p B))) := fun s => same_unlock h1 s
    have hfr : ∀ {D}, upd H wd (.frz od (.dK (dR p B))) D = none → H D = none ∧ D ≠ wd := fun h => free_lock h1 h
    generalize upd H wd (.frz od (.dK (dR p B))) = HL at hdl hwl hhl hal hun hfr ⊢
    refine ⟨_, rfl, wd, od, rfl, .inl ⟨_, hal, fun D hD => ?_⟩⟩
    let pr : Nat → Bool := fun s => (kvs.lookup s).isNone && (lowW m (here s) (upTo kvs tp)).isSome
    obtain ⟨hD0, hDw⟩ := hfr hD
    refine lc_it walk_keys (fun i H' => Same HL H' ∧ H' D = some (.lst (((B.take i).filter pr).map iV))) ?_ ?_ ?_ ?_
    · exact ⟨same_new hD, upd_same⟩
    · rintro i H' hi ⟨hs, _⟩
      exact hs _ _ hal
    · rintro i x H1 H' hi ⟨hs, hl⟩ ⟨rfl, kk, vv, hkv, rfl⟩
      rw [dR_len] at hi
      obtain ⟨u, hu'⟩ := get_some hi
      have hm := List.mem_of_getElem? hu'
      rw [dR_get hu'] at hkv
      cases hkv
      have hlen : ((B.take i).filter pr).length ≤ 1000 := by
        have := List.length_filter_le pr (B.take i)
        rw [List.length_take] at this
        have := G.few
        omega
      refine ⟨rfl, _, rfl, _, rfl, d, _, rfl, dget_rd (rd_same hdl hs) u, _, rfl, ?_⟩
      refine ite_by (c' := (kvs.lookup u).isNone) (by cases kvs.lookup u <;> rfl) (fun hc => ?_) (fun hc => ?_)
      · refine ⟨_, rfl, _, rfl, wd, _, rfl, dget_ref (rd_same hwl hs) hm, _, rfl, _, rfl, _, rfl, p u, d, here u, kvs, tp, rfl, (hhl u hm).same hs, G.short hm, rd_same hdl hs, fun H2 hs2 => ⟨rfl, _, rfl, ?_⟩⟩
        have hs3 := hs.trans hs2
        have hl2 := hs2 _ _ hl
        refine ite_by (oV_isNon _) (fun ha => ?_) (fun ha => ?_)
        · refine ⟨_, rfl, _, hl2, ?_, same_into hs3 hD, ?_⟩
          · rw [List.length_map]
            exact small1000 hlen
          · rw [upd_same, filter_more hu', show pr u = true by show (_ && _) = true; rw [hc, ha]; rfl, if_pos rfl, List.map_append]
            rfl
        · refine ⟨hs3, ?_⟩
          rw [filter_more hu', show pr u = false by show (_ && _) = false; rw [ha, Bool.and_false], if_neg Bool.false_ne_true, List.append_nil]
          exact hl2
      · refine if_false_of rfl ⟨hs, ?_⟩
        rw [filter_more hu', show pr u = false by show (_ && _) = false; rw [hc, Bool.false_and], if_neg Bool.false_ne_true, List.append_nil]
        exact hl
    · rintro H' ⟨hs, hl⟩
      rw [dR_len, List.take_length] at hl
      exact ⟨hs _ _ hal, k _ D (hun hs) hD0 (by rw [upd_ne hDw]; exact hl)⟩
end
end Sh
set_option Elab.async false
set_option maxRecDepth 100000
set_option maxHeartbeats 2000000
namespace Sh
open PySem PySem.Spec PyProof.Rows L2
theorem nodup_at {a l : List Nat} {j u : Nat} (h : (a ++ l).Nodup) (e : l[j]? = some u) : u ∉ a ++ l.take j := by
  have s : List.Sublist ((a ++ l.take j) ++ [u]) (a ++ l) := by
    rw [List.append_assoc, ← take_more e]
    exact List.Sublist.append (List.Sublist.refl a) (List.take_sublist _ _)
  have := List.nodup_append.mp (List.Pairwise.sublist s h)
  intro z
  exact this.2.2 u z u (List.mem_singleton.mpr rfl) rfl
def spLevels (m : Bool) (fs : Addr) : Sp := fun vs H Q _ => ∃ (wd : Addr) (B : List Nat) (here : Nat → Here) (g : Nat), vs = [.ref wd, iV g, .ref fs] ∧ WaysAt H wd B here ∧ GoodW B here ∧
  ∀ (H' : Hp) (q : Addr), Same H H' → H q = none → H' q = some (.dK (dN (prs (lvW m B here g)))) → Q (.ref q) H'
theorem Flat.len {B : List Nat} {l : List (List Nat)} (h : Flat B l) : l.flatten.length ≤ B.length := List.Nodup.length_le_of_subset h.nd h.sub
section
variable {P : Program} {w : World} {K : PySem.W.Frag} {mg : Str → Option Value} {base : Heap} {CA : Addr} {m : Bool} {fs : Addr}
theorem scLevels : FnScope ["ways", "wanted", "serves", "levels", "top", "found", "state"] ["ways", "wanted", "serves"] (defScope sLevels) := ⟨rfl, rfl, rfl, by decide +kernel, rfl, by decide +kernel, by decide +kernel⟩
theorem ok_levels {f fA fW : Addr} {fd fdA fdW : FuncData} (F : Fun K "levels_of" "levels_of" sLevels f fd) (U : Cal P w K mg base "states_above" 4 ["ways", "levels", "top", "serves"] (spAbove m fs) fA fdA) (W : Cal P w K mg base "is_as_wanted" 1 ["state", "wanted"] spWanted fW fdW)
    (mL : mg "len" = none) : FnOk P w K mg base CX0 5 f fd ["ways", "wanted", "serves"] (spLevels m fs) := by
  refine F.ok scLevels (fun vs H Q E h => ?_) (fun cdv A outer s H vs Q E hr h => ?_)
  · obtain ⟨wd, B, here, g, rfl, _⟩ := h
    rfl
  · obtain ⟨wd, B, here, g, rfl, hW, G, k⟩ := h
    have hu := hu_of hr
    have hr1 : Room 1 _ := hr.mono (by decide)
    refine ⟨_, pss_cons (ps_set (i := 3) scLevels.nd rfl (Or.inl rfl) pe_dnewK)
      (pss_cons (ps_set (i := 4) scLevels.nd rfl (Or.inl rfl) pe_int)
      (pss_cons (ps_lock (ps_setLc (i := 5) (own := [("state", 6)]) (g := gName 6) rfl scLevels.nd rfl rfl (sw_true rfl rfl rfl (by decide +kernel)) (pi_keys (pv 0))
        (blkOk_by (N := ["ways", "wanted", "serves", "levels", "top", "found", "state"]) (sc := defScope sLevels) (by decide +kernel))
        (fun _ _ _ _ _ => pg_name (i := 6) scLevels.nd rfl (Or.inl rfl))
        (fun _ _ _ _ _ => pts_one (pt_val (pe_call W.ok hr1 rfl W.gl W.kp W.bd .nil pass0 (pa_cons (pv 6) (pa_cons (pv 1) pa_nil)))))
        (fun _ _ _ _ _ => pv 6)))
      (pss_cons (ps_while PassesOwn.never (pt_cmpR op_gt (pe_callB call_len_seq (by rfl) mL PySem.boot_len (pa_cons (pv 5) pa_nil)) pe_int (nomark _))
        (pss_cons (ps_for PassesOwn.never rfl (pi_list (pv 5)) (pg_name (i := 6) scLevels.nd rfl (Or.inl rfl)) (pss_one (ps_dput hu (pv 3) (pv 6) (pv 4) rfl)))
        (pss_cons (ps_set (i := 5) scLevels.nd rfl (Or.inl rfl) (pe_call U.ok hr rfl U.gl U.kp U.bd .nil pass0 (pa_cons (pv 0) (pa_cons (pv 3) (pa_cons (pv 4) (pa_cons (pv 2) pa_nil))))))
        (pss_one (ps_aug (i := 4) scLevels.nd rfl (.inl rfl) pe_int ip_add)))))
      (pss_one (ps_ret (pv 3)))))), ?_⟩
    intro d hd
    have n0 : Same H (upd H d (.dK [])) := same_new hd
    have hd0 : upd H d (.dK []) d = some (.dK []) := upd_same
    generalize upd H d (.dK []) = H0 at n0 hd0 ⊢
    obtain ⟨p, h1, h2⟩ := hW.same n0
    have hwd : wd ≠ d := fun z => by
      obtain ⟨_, q, _⟩ := hW
      rw [z, hd] at q
      cases q
    refine ⟨wd, _, h1, trivial, fun od => ?_⟩
    have hal : upd H0 wd (.frz od (.dK (dR p B))) wd = some (.frz od (.dK (dR p B))) := upd_same
    have hun : ∀ {H'}, Same (upd H0 wd (.frz od (.dK (dR p B)))) H' → Same H0 (upd H' wd (.dK (dR p B))) := fun s => same_unlock h1 s
    have hfr : ∀ {D}, upd H0 wd (.frz od (.dK (dR p B))) D = none → H0 D = none ∧ D ≠ wd := fun h => free_lock h1 h
    generalize upd H0 wd (.frz od (.dK (dR p B))) = HL at hal hun hfr ⊢
    refine ⟨_, rfl, wd, od, rfl, .inl ⟨_, hal, fun D hD => ?_⟩⟩
    obtain ⟨hD0, hDw⟩ := hfr hD
    refine lc_it walk_keys (fun i H' => Same HL H' ∧ H' D = some (.lst (((B.take i).filter (doneW g)).map iV))) ?_ ?_ ?_ ?_
    · exact ⟨same_new hD, upd_same⟩
    · rintro i H' hi ⟨hs, _⟩
      exact hs _ _ hal
    · rintro i x H1 H' hi ⟨hs, hl⟩ ⟨rfl, kk, vv, hkv, rfl⟩
      rw [dR_len] at hi
      obtain ⟨u, hu'⟩ := get_some hi
      rw [dR_get hu'] at hkv
      cases hkv
      have hlen : ((B.take i).filter (doneW g)).length ≤ 1000 := by
        have := List.length_filter_le (doneW g) (B.take i)
        rw [List.length_take] at this
        have := G.few
        omega
      refine ⟨rfl, _, rfl, _, rfl, u, g, rfl, _, rfl, ?_⟩
      refine ite_by rfl (fun hc => ?_) (fun hc => ?_)
      · refine ⟨_, rfl, _, hl, ?_, same_into hs hD, ?_⟩
        · rw [List.length_map]
          exact small1000 hlen
        · rw [upd_same, filter_more hu', hc, if_pos rfl, List.map_append]
          rfl
      · refine ⟨hs, ?_⟩
        rw [filter_more hu', hc, if_neg Bool.false_ne_true, List.append_nil]
        exact hl
    · rintro H' ⟨hs, hl⟩
      rw [dR_len, List.take_length] at hl
      refine ⟨hs _ _ hal, ?_⟩
      have hs1 := hun hs
      have hD1 : upd H' wd (.dK (dR p B)) D = some (.lst ((B.filter (doneW g)).map iV)) := by rw [upd_ne hDw]; exact hl
      generalize upd H' wd (.dK (dR p B)) = H1 at hs1 hD1 ⊢
      -- while len(found) > 0
      refine ⟨fun ms σ H' => ∃ (v6 : Option V) (l : List (List Nat)) (found : List Nat) (fa : Addr), σ = [some (.ref wd), some (iV g), some (.ref fs), some (.ref d), some (iV l.length), some (.ref fa), v6] ∧ Same H H' ∧ H' d = some (.dK (dN (prs l))) ∧ H' fa = some (.lst (found.map iV)) ∧ LvInv m B here g l found ∧
        ms = B.length - l.flatten.length, ⟨_, none, [], B.filter (doneW g), D, rfl, n0.trans hs1, hs1 _ _ hd0, hD1, LvInv.start G, rfl⟩, ?_⟩
      rintro ms σ H2 ⟨v6, l, found, fa, rfl, hs2, hd2, hf2, inv, rfl⟩
      refine ⟨_, rfl, fa, _, rfl, .inl (SqL.of hf2), _, _, rfl, rfl, _, rfl, ?_⟩
      refine ite_by (c' := decide (0 < found.length)) (by rw [List.length_map]; by_cases z : 0 < found.length <;> simp [z]) (fun hz => ?_) (fun hz => ?_)
      · have hz := of_decide_eq_true hz
        have hne : found ≠ [] := List.length_pos_iff.mp hz
        refine ⟨fun σ' H3 => ∃ m', m' < B.length - l.flatten.length ∧ ∃ (v6 : Option V) (l : List (List Nat)) (found : List Nat) (fa : Addr), σ' = [some (.ref wd), some (iV g), some (.ref fs), some (.ref d), some (iV l.length), some (.ref fa), v6] ∧ Same H H3 ∧ H3 d = some (.dK (dN (prs l))) ∧ H3 fa = some (.lst (found.map iV)) ∧ LvInv m B here g l found ∧
          m' = B.length - l.flatten.length, fun σ' H3 q => q, ?_⟩
        have hfl := inv.flat.len
        have hnd := inv.flat.nd
        rw [flatten_snoc] at hnd hfl
        rw [List.length_append] at hfl
        have hB := G.few
        refine ⟨_, rfl, fa, rfl, ⟨_, SqL.of hf2⟩, for_list (K := K) (a := fa) (xs := found.map iV) (fun j σ H' => ∃ v6 : Option V, σ = [some (.ref wd), some (iV g), some (.ref fs), some (.ref d), some (iV l.length), some (.ref fa), v6] ∧ Same H H' ∧ H' fa = some (.lst (found.map iV)) ∧ H' d = some (.dK (dN (prs l ++ (found.take j).map fun s => (s, l.length))))) ?_ ?_ ?_ ?_⟩
        · refine ⟨_, rfl, hs2, hf2, ?_⟩
          rw [List.take_zero, List.map_nil, List.append_nil]
          exact hd2
        · rintro j σ H' _ ⟨v6, rfl, _, hf', _⟩
          exact SqL.of hf'
        · rintro j x σ H' hx ⟨v6, rfl, hs', hf', hk'⟩
          rw [List.getElem?_map] at hx
          cases e : found[j]? with
          | none => rw [e] at hx; cases hx
          | some u =>
            rw [e] at hx
            cases hx
            have hno : (prs l ++ (found.take j).map fun s => (s, l.length)).lookup u = none := by
              rw [lookup_none, List.map_append, pairs_keys, prs_keys]
              exact nodup_at hnd e
            have hln : (prs l ++ (found.take j).map fun s => (s, l.length)).length ≤ 1000 := by
              rw [List.length_append, List.length_map, List.length_take, prs_len]
              omega
            have hfd : fa ≠ d := lst_ne hf' hk'
            refine ⟨_, rfl, _, rfl, _, rfl, d, _, rfl, DPut.k (k := Sum.inl (u : Int)) hk' (by rw [dN_len]; exact small1000 hln), ?_⟩
            refine ⟨_, rfl, same_into hs' hd, ?_, ?_⟩
            · rw [upd_ne hfd]
              exact hf'
            · rw [upd_same, take_more e, List.map_append, ← List.append_assoc]
              exact congrArg (fun z => some (HO.dK z)) (dN_put l.length hno)
        · rintro σ H' ⟨v6, rfl, hs', hf', hk'⟩
          rw [List.length_map, List.take_length] at hk'
          have ek : prs l ++ (found.map fun s => (s, l.length)) = prs (l ++ [found]) := by
            show _ = pairsFrom 0 (l ++ [found])
            rw [pairsFrom_snoc, Nat.zero_add]
          rw [ek] at hk'
          refine ⟨_, rfl, _, rfl, _, rfl, _, rfl, wd, d, B, here, prs (l ++ [found]), l.length, rfl, hW.same hs', G, Rd.of hk', fun H3 q hs3 hq hq3 => ?_⟩
          have hlen1 : (l ++ [found]).length = l.length + 1 := by rw [List.length_append]; rfl
          rw [above_newW hlen1] at hq3
          refine ⟨_, rfl, _, _, rfl, rfl, B.length - (l ++ [found]).flatten.length, ?_, v6, l ++ [found], _, q, ?_, hs'.trans hs3, hs3 _ _ hk', hq3, inv.next G hne, rfl⟩
          · rw [flatten_snoc, List.length_append]
            omega
          · rw [hlen1]
            rfl
      · have hz : found = [] := List.length_eq_zero_iff.mp (by have := of_decide_eq_false hz; omega)
        rw [inv.stop hz] at hd2
        exact ⟨_, rfl, k H2 d hs2 hd hd2⟩
end
end Sh
set_option Elab.async false
set_option maxRecDepth 100000
set_option maxHeartbeats 2000000
namespace Sh
open PySem PySem.Spec PyProof.Rows L2
theorem dN_get {kvs : List (Nat × Nat)} {i : Nat} {x : Nat × Nat} (h : kvs[i]? = some x) : (dN kvs)[i]? = some (Sum.inl (x.1 : Int), iV x.2) := by
  unfold dN
  rw [List.getElem?_map, h]
  rfl
theorem item_dN {kvs : List (Nat × Nat)} {i : Nat} {y z : V} (hi : i < (dN kvs).length) (hy : ((dN kvs)[i]?.map fun kv => kV kv.1) = some y) (hz : (dN kvs)[i]?.map Prod.snd = some z) : ∃ x, kvs[i]? = some x ∧ y = iV x.1 ∧ z = iV x.2 := by
  rw [dN_len] at hi
  obtain ⟨x, hx⟩ := get_some hi
  rw [dN_get hx] at hy hz
  cases hy
  cases hz
  exact ⟨x, hx, rfl, rfl⟩
theorem lookup_at {kvs : List (Nat × Nat)} {i : Nat} {x : Nat × Nat} (hn : (kvs.map (·.1)).Nodup) (h : kvs[i]? = some x) : kvs.lookup x.1 = some x.2 := by
  have hm := List.mem_of_getElem? h
  clear h
  induction kvs with
  | nil => exact absurd hm List.not_mem_nil
  | cons p r ih =>
    obtain ⟨a, b⟩ := p
    obtain ⟨h1, h2⟩ := List.nodup_cons.mp (show (a :: r.map (·.1)).Nodup from hn)
    rw [List.lookup_cons]
    rcases List.mem_cons.mp hm with z | z
    · subst z
      simp
    · have : (x.1 == a) = false := by
        simp
        intro e
        exact h1 (by rw [← e]; exact List.mem_map.mpr ⟨x, z, rfl⟩)
      rw [this]
      exact ih h2 z
theorem lookup_snoc {kvs : List (Nat × Nat)} {s u n : Nat} (h : kvs.lookup u = none) : (kvs ++ [(u, n)]).lookup s = if s = u then some n else kvs.lookup s := by
  rw [lookup_append]
  by_cases e : s = u
  · subst e
    rw [h, if_pos rfl]
    simp [List.lookup]
  · have : (s == u) = false := by simp [e]
    rw [if_neg e]
    simp [List.lookup, this]
theorem key_at {kvs : List (Nat × Nat)} {i : Nat} {x : Nat × Nat} (hn : (kvs.map (·.1)).Nodup) (h : kvs[i]? = some x) : x.1 ∉ (kvs.take i).map (·.1) := by
  have e : (kvs.map (·.1))[i]? = some x.1 := by rw [List.getElem?_map, h]; rfl
  have := nodup_at (a := []) hn e
  rw [List.nil_append, ← List.map_take] at this
  exact this
theorem key_atH {w : Here} {i : Nat} {x : Nat × List Nat} (hn : (w.map (·.1)).Nodup) (h : w[i]? = some x) : x.1 ∉ (w.take i).map (·.1) := by
  have e : (w.map (·.1))[i]? = some x.1 := by rw [List.getElem?_map, h]; rfl
  have := nodup_at (a := []) hn e
  rw [List.nil_append, ← List.map_take] at this
  exact this
theorem keys_more {kvs : List (Nat × Nat)} {i : Nat} {x : Nat × Nat} (h : kvs[i]? = some x) : (kvs.take (i + 1)).map (·.1) = (kvs.take i).map (·.1) ++ [x.1] := by
  rw [take_more h, List.map_append]
  rfl
def spRule (m : Bool) (fs : Addr) : Sp := fun vs H Q _ => ∃ (wd d : Addr) (B : List Nat) (here : Nat → Here) (kvs : List (Nat × Nat)) (H0 : Hp), vs = [.ref wd, .ref d, .ref fs] ∧ WaysAt H0 wd B here ∧ Same H0 H ∧ H0 d = none ∧ GoodW B here ∧ H d = some (.dK (dN kvs)) ∧ (kvs.map (·.1)).Nodup ∧ kvs.length ≤ 1000 ∧
  (∀ s ∈ kvs.map (·.1), s ∈ B) ∧ (∀ s n, kvs.lookup s = some (n + 1) → (lowW m (here s) (upTo kvs n)).isSome = true) ∧
  ∀ (H' : Hp) (q : Addr) (rl : List (Nat × Nat)), Same H H' → H q = none → H' q = some (.dK (dN rl)) → (∀ s, rl.lookup s = ruleW m here kvs s) → Q (.ref q) H'
def spLeft : Sp := fun vs H Q _ => ∃ (a kd : Addr) (w : Here) (kvs : List (Nat × Nat)), vs = [.ref a, .ref kd] ∧ HereAt H a w ∧ (w.map (·.1)).Nodup ∧ w.length ≤ 1000 ∧ (∀ x ∈ w, x.2.length ≤ 1000) ∧ Rd H kd (.dK (dN kvs)) ∧
  ∀ (H' : Hp) (q : Addr), Same H H' → H q = none → HereAt H' q (leftH w (kvs.map (·.1))) → Q (.ref q) H'
def spWithin : Sp := fun vs H Q _ => ∃ (wd kd : Addr) (B : List Nat) (here : Nat → Here) (kvs : List (Nat × Nat)) (H0 : Hp), vs = [.ref wd, .ref kd] ∧ WaysAt H0 wd B here ∧ Same H0 H ∧ H0 kd = none ∧ GoodW B here ∧ H kd = some (.dK (dN kvs)) ∧ (kvs.map (·.1)).Nodup ∧ kvs.length ≤ 1000 ∧ (∀ s ∈ kvs.map (·.1), s ∈ B) ∧
  ∀ (H' : Hp) (q : Addr), Same H H' → H q = none → WaysAt H' q (kvs.map (·.1)) (fun s => leftH (here s) (kvs.map (·.1))) → Q (.ref q) H'
section
variable {P : Program} {w : World} {K : PySem.W.Frag} {mg : Str → Option Value} {base : Heap} {CA : Addr} {m : Bool} {fs : Addr}
theorem scRule : FnScope ["ways", "levels", "serves", "rule", "state", "level"] ["ways", "levels", "serves"] (defScope sRule) := ⟨rfl, rfl, rfl, by decide +kernel, rfl, by decide +kernel, by decide +kernel⟩
theorem ok_rule {f fL : Addr} {fd fdL : FuncData} (F : Fun K "rule_of" "rule_of" sRule f fd) (L : Cal P w K mg base "lowest_act" 3 ["ways_here", "levels", "top", "serves"] (spLow m fs) fL fdL) : FnOk P w K mg base CX0 4 f fd ["ways", "levels", "serves"] (spRule m fs) := by
  refine F.ok scRule (fun vs H Q E h => ?_) (fun cdv A outer s H vs Q E hr h => ?_)
  · obtain ⟨wd, d, B, here, kvs, H0, rfl, _⟩ := h
    rfl
  · obtain ⟨wd, d, B, here, kvs, H0, rfl, hW, hs0, hd0, G, hd, hnd, hlen, hsub, hhas, k⟩ := h
    have hu := hu_of hr
    refine ⟨_, pss_cons (ps_set (i := 3) scRule.nd rfl (Or.inl rfl) pe_dnewK)
      (pss_cons (ps_lock (ps_for PassesOwn.never rfl (pi_items (pv 1)) (pg_tup rfl (pgs_cons (pg_name (i := 4) scRule.nd rfl (Or.inl rfl)) (pgs_cons (pg_name (i := 5) scRule.nd rfl (Or.inl rfl)) pgs_nil)))
        (pss_one (ps_if (pt_cmpR op_gt (pv 5) pe_int (nomark _))
          (pss_one (ps_dput hu (pv 3) (pv 4) (pe_call L.ok hr rfl L.gl L.kp L.bd .nil pass0 (pa_cons (pe_dget hu (pv 0) (pv 4) (fun _ _ => rfl)) (pa_cons (pv 1) (pa_cons (pe_op op_sub (pv 5) pe_int) (pa_cons (pv 2) pa_nil))))) rfl)) pss_nil))))
      (pss_one (ps_ret (pv 3)))), ?_⟩
    intro r hr0
    have n0 : Same H (upd H r (.dK [])) := same_new hr0
    have hrr : upd H r (.dK []) r = some (.dK (dN [])) := upd_same
    generalize upd H r (.dK []) = H1 at n0 hrr ⊢
    have hd1 := n0 _ _ hd
    have hrd : r ≠ d := fun z => by rw [z, hd] at hr0; cases hr0
    have hs1 := hs0.trans n0
    refine ⟨d, _, hd1, trivial, fun od => ?_⟩
    have hal : upd H1 d (.frz od (.dK (dN kvs))) d = some (.frz od (.dK (dN kvs))) := upd_same
    have hsl : Same H0 (upd H1 d (.frz od (.dK (dN kvs)))) := same_into hs1 hd0
    have hun : ∀ {H'}, Same (upd H1 d (.frz od (.dK (dN kvs)))) H' → Same H1 (upd H' d (.dK (dN kvs))) := fun s => same_unlock hd1 s
    have hrl : upd H1 d (.frz od (.dK (dN kvs))) r = some (.dK (dN [])) := by rw [upd_ne hrd]; exact hrr
    have hHL : ∀ b o, H b = some o → b ≠ d → upd H1 d (.frz od (.dK (dN kvs))) b = some o := fun b o e hb => by
      rw [upd_ne hb]
      exact n0 _ _ e
    generalize upd H1 d (.frz od (.dK (dN kvs))) = HL at hal hsl hun hrl hHL ⊢
    -- what stands but the rule's dict
    refine ⟨_, rfl, d, od, _, rfl, hal, for_it walk_items (fun i σ H' => ∃ (v u : Option V) (rl : List (Nat × Nat)), σ = [some (.ref wd), some (.ref d), some (.ref fs), some (.ref r), v, u] ∧ (∀ b o, HL b = some o → b ≠ r → H' b = some o) ∧ H' r = some (.dK (dN rl)) ∧ rl.length ≤ i ∧
      ∀ s, rl.lookup s = if s ∈ (kvs.take i).map (·.1) then ruleW m here kvs s else none) ?_ ?_ ?_ ?_⟩
    · exact ⟨none, none, [], rfl, fun b o e _ => e, hrl, Nat.le_refl _, fun s => by rw [List.take_zero]; rfl⟩
    · rintro i σ H' hi ⟨v, u, rl, rfl, hs, _⟩
      exact hs _ _ hal hrd.symm
    · rintro i x σ H2 H' hi ⟨v, u, rl, rfl, hs, hrl2, hrn, hlk⟩ ⟨tq, y, z, rfl, hT, rfl, hy, hz⟩
      obtain ⟨x, hx, rfl, rfl⟩ := item_dN hi hy hz
      have hlook := lookup_at hnd hx
      have hkey := key_at hnd hx
      have hmem : x.1 ∈ kvs.map (·.1) := List.mem_map.mpr ⟨x, List.mem_of_getElem? hx, rfl⟩
      have hn2 := same_new (o := .tup [iV x.1, iV x.2]) hT
      have hrl3 := hn2 _ _ hrl2
      have hs3 : ∀ b o, HL b = some o → b ≠ r → upd H2 tq (.tup [iV x.1, iV x.2]) b = some o := fun b o e hb => hn2 _ _ (hs b o e hb)
      refine ⟨tq, _, rfl, SqT.of upd_same, rfl, _, _, rfl, _, _, rfl, rfl, ?_⟩
      generalize upd H2 tq (.tup [iV x.1, iV x.2]) = H3 at hrl3 hs3 ⊢
      have hno : rl.lookup x.1 = none := by rw [hlk, if_neg hkey]
      refine ⟨_, rfl, _, _, rfl, rfl, _, rfl, ?_⟩
      refine ite_by (c' := decide (0 < x.2)) (by by_cases z : 0 < x.2 <;> simp [z]) (fun hc => ?_) (fun hc => ?_)
      · have hc := of_decide_eq_true hc
        obtain ⟨n, hn⟩ : ∃ n, x.2 = n + 1 := ⟨x.2 - 1, by omega⟩
        rw [hn] at hlook
        have hB := hsub _ hmem
        have hs03 : Same H0 H3 := fun b o e => hs3 b o (hsl _ _ e) fun z => by
          have h1 := hs0 _ _ e
          rw [z, hr0] at h1
          cases h1
        obtain ⟨p, w1, w2⟩ := hW
        have ev : V.int (((x.2 : Nat) : Int) - 1) = iV n := by rw [hn]; show V.int _ = V.int _; congr 1; omega
        obtain ⟨kk, hkk⟩ := Option.isSome_iff_exists.mp (hhas _ _ hlook)
        refine ⟨_, rfl, _, rfl, wd, _, rfl, dget_ref (Rd.of (hs03 _ _ w1)) hB, _, rfl, _, rfl, _, _, rfl, rfl, _, rfl, p x.1, d, here x.1, kvs, n, ?_, (w2 _ hB).2.same hs03, G.short hB, .inr ⟨od, hs3 _ _ hal hrd.symm⟩, fun H4 hs4 => ?_⟩
        · show [V.ref (p x.1), V.ref d, V.int (((x.2 : Nat) : Int) - 1), V.ref fs] = _
          rw [ev]
        · rw [hkk]
          refine ⟨_, rfl, _, rfl, r, _, rfl, DPut.k (k := Sum.inl (x.1 : Int)) (hs4 _ _ hrl3) (by rw [dN_len]; rw [dN_len] at hi; exact small1000 (by omega)), _, _, rl ++ [(x.1, kk)], rfl, fun b o e hb => ?_, ?_, ?_, fun s => ?_⟩
          · rw [upd_ne hb]
            exact hs4 _ _ (hs3 b o e hb)
          · rw [upd_same]
            exact congrArg (fun z => some (HO.dK z)) (dN_put kk hno)
          · rw [List.length_append]
            show rl.length + 1 ≤ i + 1
            omega
          · rw [lookup_snoc hno, keys_more hx, hlk s]
            by_cases es : s = x.1
            · subst es
              rw [if_pos rfl, if_pos (List.mem_append_right _ (List.mem_singleton.mpr rfl))]
              unfold ruleW
              rw [hlook]
              exact hkk.symm
            · rw [if_neg es]
              by_cases em : s ∈ (kvs.take i).map (·.1)
              · rw [if_pos em, if_pos (List.mem_append_left _ em)]
              · rw [if_neg em, if_neg fun z => (List.mem_append.mp z).elim em fun z => es (List.mem_singleton.mp z)]
      · have hc : x.2 = 0 := by have := of_decide_eq_false hc; omega
        rw [hc] at hlook
        refine ⟨_, _, rl, rfl, hs3, hrl3, by omega, fun s => ?_⟩
        rw [hlk s, keys_more hx]
        by_cases es : s = x.1
        · subst es
          rw [if_neg hkey, if_pos (List.mem_append_right _ (List.mem_singleton.mpr rfl))]
          unfold ruleW
          rw [hlook]
        · by_cases em : s ∈ (kvs.take i).map (·.1)
          · rw [if_pos em, if_pos (List.mem_append_left _ em)]
          · rw [if_neg em, if_neg fun z => (List.mem_append.mp z).elim em fun z => es (List.mem_singleton.mp z)]
    · rintro σ H' ⟨v, u, rl, rfl, hs, hrl2, hrn, hlk⟩
      rw [dN_len, List.take_length] at hlk
      refine ⟨hs _ _ hal hrd.symm, ?_⟩
      have fin : Same H (upd H' d (.dK (dN kvs))) := fun b o e => by
        by_cases hb : b = d
        · rw [hb, upd_same, ← hd, ← hb]
          exact e
        · rw [upd_ne hb]
          exact hs b o (hHL b o e hb) fun z => by rw [z, hr0] at e; cases e
      refine ⟨_, rfl, k _ r rl fin hr0 (by rw [upd_ne hrd]; exact hrl2) fun s => ?_⟩
      rw [hlk s]
      by_cases em : s ∈ kvs.map (·.1)
      · rw [if_pos em]
      · rw [if_neg em]
        unfold ruleW
        rw [lookup_none.mpr em]
theorem scLeft : FnScope ["ways_here", "kept", "left", "number", "states", "state"] ["ways_here", "kept"] (defScope sLeftW) := ⟨rfl, rfl, rfl, by decide +kernel, rfl, by decide +kernel, by decide +kernel⟩
theorem leftH_more {w : Here} {kept : List Nat} {i : Nat} {x : Nat × List Nat} (h : w[i]? = some x) : leftH (w.take (i + 1)) kept = leftH (w.take i) kept ++ if x.2.all kept.contains = true then [x] else [] := by
  unfold leftH
  exact filter_more h
theorem leftH_sub {w : Here} {kept : List Nat} {i k : Nat} (h : k ∈ (leftH (w.take i) kept).map (·.1)) : k ∈ (w.take i).map (·.1) := by
  obtain ⟨x, hx, rfl⟩ := List.mem_map.mp h
  exact List.mem_map.mpr ⟨x, (List.mem_filter.mp hx).1, rfl⟩
theorem din_keys {kvs : List (Nat × Nat)} (u : Nat) : ((kvs.lookup u).map iV).isSome = (kvs.map (·.1)).contains u := by
  cases e : kvs.lookup u with
  | none =>
    cases q : (kvs.map (·.1)).contains u with
    | false => rfl
    | true => exact absurd (List.contains_iff_mem.mp q) (lookup_none.mp e)
  | some n =>
    cases q : (kvs.map (·.1)).contains u with
    | true => rfl
    | false =>
      have : u ∉ kvs.map (·.1) := fun z => by rw [List.contains_iff_mem.mpr z] at q; cases q
      rw [lookup_none.mpr this] at e
      cases e
theorem ok_left {f : Addr} {fd : FuncData} (F : Fun K "ways_left" "ways_left" sLeftW f fd) (mA : mg "all" = none) : FnOk P w K mg base CX0 1 f fd ["ways_here", "kept"] spLeft := by
  refine F.ok scLeft (fun vs H Q E h => ?_) (fun cdv A outer s H vs Q E hr h => ?_)
  · obtain ⟨a, kd, w, kvs, rfl, _⟩ := h
    rfl
  · obtain ⟨a, kd, w, kvs, rfl, ⟨p, h1, h2⟩, hnd, hwl, hsh, hk, k⟩ := h
    have hu := hu_of hr
    refine ⟨_, pss_cons (ps_set (i := 2) scLeft.nd rfl (Or.inl rfl) pe_dnewK)
      (pss_cons (ps_lock (ps_for PassesOwn.never rfl (pi_items (pv 0)) (pg_tup rfl (pgs_cons (pg_name (i := 3) scLeft.nd rfl (Or.inl rfl)) (pgs_cons (pg_name (i := 4) scLeft.nd rfl (Or.inl rfl)) pgs_nil)))
        (pss_one (ps_if (pt_val (pe_callB (cr_all rfl) (by rfl) mA (by decide +kernel) (pa_cons (pe_lc (own := [("state", 5)]) (g := gName 5) (tt := tYes) rfl scLeft.nd (pi_list (pv 4))
            (blkOk_by (N := ["ways_here", "kept", "left", "number", "states", "state"]) (sc := defScope sLeftW) (by decide +kernel))
            (fun _ _ _ _ _ => pg_name (i := 5) scLeft.nd rfl (Or.inl rfl))
            (fun _ _ _ _ _ => pts_nil)
            (fun _ _ _ _ _ => pe_cmp (pc_din hu (pv 5) (pv 1)))) pa_nil)))
          (pss_one (ps_dput hu (pv 2) (pv 3) (pv 4) rfl)) pss_nil))))
      (pss_one (ps_ret (pv 2)))), ?_⟩
    intro r hr0
    have n0 : Same H (upd H r (.dK [])) := same_new hr0
    have hrr : upd H r (.dK []) r = some (.dK []) := upd_same
    generalize upd H r (.dK []) = H1 at n0 hrr ⊢
    have h11 := n0 _ _ h1
    have hra : r ≠ a := fun z => by rw [z, h1] at hr0; cases hr0
    refine ⟨a, _, h11, trivial, fun od => ?_⟩
    have hkl := rd_lock (od := od) h11 trivial (rd_same hk n0)
    have hkr : kd ≠ r := fun z => by
      rcases hk with q | ⟨_, q⟩ <;> rw [z, hr0] at q <;> cases q
    have hal : upd H1 a (.frz od (.dK (dR p (w.map (·.1))))) a = some (.frz od (.dK (dR p (w.map (·.1))))) := upd_same
    have hrl : upd H1 a (.frz od (.dK (dR p (w.map (·.1))))) r = some (.dK []) := by rw [upd_ne hra]; exact hrr
    have hll : ∀ x ∈ w, upd H1 a (.frz od (.dK (dR p (w.map (·.1))))) (p x.1) = some (.lst (x.2.map iV)) := fun x hx => by
      rw [upd_ne (lst_ne (h2 x hx) h1)]
      exact n0 _ _ (h2 x hx)
    have hHL : ∀ b o, H b = some o → b ≠ a → upd H1 a (.frz od (.dK (dR p (w.map (·.1))))) b = some o := fun b o e hb => by
      rw [upd_ne hb]
      exact n0 _ _ e
    generalize upd H1 a (.frz od (.dK (dR p (w.map (·.1))))) = HL at hkl hal hrl hll hHL ⊢
    refine ⟨_, rfl, a, od, _, rfl, hal, for_it walk_items (fun i σ H' => ∃ (v u : Option V), σ = [some (.ref a), some (.ref kd), some (.ref r), v, u, none] ∧ (∀ b o, HL b = some o → b ≠ r → H' b = some o) ∧ HereAt H' r (leftH (w.take i) (kvs.map (·.1)))) ?_ ?_ ?_ ?_⟩
    · exact ⟨none, none, rfl, fun b o e _ => e, fun _ => 0, hrl, fun x hx => absurd hx (by rw [List.take_zero]; exact List.not_mem_nil)⟩
    · rintro i σ H' hi ⟨v, u, rfl, hs, _⟩
      exact hs _ _ hal hra.symm
    · rintro i x σ H2 H' hi ⟨v, u, rfl, hs, hh⟩ ⟨tq, y, z, rfl, hT, rfl, hy, hz⟩
      obtain ⟨x, hx, rfl, rfl⟩ := item_here hi hy hz
      have hxm := List.mem_of_getElem? hx
      have hn2 := same_new (o := .tup [iV x.1, .ref (p x.1)]) hT
      have hh3 := hh.same hn2
      have hs3 : ∀ b o, HL b = some o → b ≠ r → upd H2 tq (.tup [iV x.1, .ref (p x.1)]) b = some o := fun b o e hb => hn2 _ _ (hs b o e hb)
      refine ⟨tq, _, rfl, SqT.of upd_same, rfl, _, _, rfl, _, _, rfl, rfl, ?_⟩
      generalize upd H2 tq (.tup [iV x.1, .ref (p x.1)]) = H3 at hh3 hs3 ⊢
      have hpr : p x.1 ≠ r := fun z => by
        have := h2 x hxm
        rw [z, hr0] at this
        cases this
      have hl3 := hs3 _ _ (hll x hxm) hpr
      have hk3 : Rd H3 kd (.dK (dN kvs)) := by
        rcases hkl with q | ⟨o, q⟩
        · exact .inl (hs3 _ _ q hkr)
        · exact .inr ⟨o, hs3 _ _ q hkr⟩
      refine ⟨_, rfl, p x.1, rfl, ⟨_, SqL.of hl3⟩, fun D hD => ?_⟩
      refine lc_list (K := K) (a := p x.1) (xs := x.2.map iV) (fun j H' => Same H3 H' ∧ H' D = some (.lst (((x.2.map (kvs.map (·.1)).contains).take j).map V.bl))) ?_ ?_ ?_ ?_
      · exact ⟨same_new hD, upd_same⟩
      · rintro j H' hj ⟨hs', _⟩
        exact SqL.of (hs' _ _ hl3)
      · rintro j y H' hy' ⟨hs', hl'⟩
        rw [List.getElem?_map] at hy'
        cases e : x.2[j]? with
        | none => rw [e] at hy'; cases hy'
        | some u =>
          rw [e] at hy'
          cases hy'
          refine ⟨rfl, _, rfl, _, rfl, kd, _, rfl, dget_rd (rd_same hk3 hs') u, _, hl', ?_, same_into hs' hD, ?_⟩
          · rw [List.length_map, List.length_take, List.length_map]
            have := hsh x hxm
            exact small1000 (by omega)
          · rw [upd_same, take_more (l := x.2.map (kvs.map (·.1)).contains) (x := (kvs.map (·.1)).contains u) (by rw [List.getElem?_map, e]; rfl), List.map_append, din_keys]
            rfl
      · rintro H' ⟨hs', hl'⟩
        rw [List.length_map, show x.2.length = (x.2.map (kvs.map (·.1)).contains).length by rw [List.length_map], List.take_length] at hl'
        refine ⟨D, _, rfl, SqL.of hl', _, rfl, ?_⟩
        have hs4 : ∀ b o, HL b = some o → b ≠ r → H' b = some o := fun b o e hb => hs' _ _ (hs3 b o e hb)
        have hh4 := hh3.same hs'
        refine ite_by (map_bl_all x.2 (kvs.map (·.1)).contains) (fun hc => ?_) (fun hc => ?_)
        · obtain ⟨pp, g1, g2⟩ := hh4
          have hno : x.1 ∉ (leftH (w.take i) (kvs.map (·.1))).map (·.1) := fun z => key_atH hnd hx (leftH_sub z)
          refine ⟨_, rfl, _, rfl, _, rfl, r, _, rfl, DPut.k (k := Sum.inl (x.1 : Int)) g1 ?_, _, _, rfl, fun b o e hb => ?_, ?_⟩
          · rw [dR_len, List.length_map]
            unfold leftH
            have := List.length_filter_le (fun x : Nat × List Nat => x.2.all (kvs.map (·.1)).contains) (w.take i)
            rw [List.length_take] at this
            exact small1000 (by omega)
          · rw [upd_ne hb]
            exact hs4 b o e hb
          · rw [leftH_more hx, if_pos hc]
            exact HereAt.put (us := x.2) g1 g2 hno (hs4 _ _ (hll x hxm) hpr)
        · refine ⟨_, _, rfl, hs4, ?_⟩
          rw [leftH_more hx, if_neg (by rw [hc]; exact Bool.false_ne_true), List.append_nil]
          exact hh4
    · rintro σ H' ⟨v, u, rfl, hs, hh⟩
      rw [dR_len, List.length_map, List.take_length] at hh
      have hal' := hs _ _ hal hra.symm
      refine ⟨hal', ?_⟩
      have fin : Same H (upd H' a (.dK (dR p (w.map (·.1))))) := fun b o e => by
        by_cases hb : b = a
        · rw [hb, upd_same, ← h1, ← hb]
          exact e
        · rw [upd_ne hb]
          exact hs b o (hHL b o e hb) fun z => by rw [z, hr0] at e; cases e
      obtain ⟨pp, g1, g2⟩ := hh
      refine ⟨_, rfl, k _ r fin hr0 ⟨pp, by rw [upd_ne hra]; exact g1, fun x hx => ?_⟩⟩
      have := g2 x hx
      rw [upd_ne fun z => by rw [z, hal'] at this; cases this]
      exact this
theorem scWithin : FnScope ["ways", "kept", "within", "state"] ["ways", "kept"] (defScope sWithin) := ⟨rfl, rfl, rfl, by decide +kernel, rfl, by decide +kernel, by decide +kernel⟩
theorem ok_within {f fL : Addr} {fd fdL : FuncData} (F : Fun K "ways_within" "ways_within" sWithin f fd) (L : Cal P w K mg base "ways_left" 1 ["ways_here", "kept"] spLeft fL fdL) : FnOk P w K mg base CX0 2 f fd ["ways", "kept"] spWithin := by
  refine F.ok scWithin (fun vs H Q E h => ?_) (fun cdv A outer s H vs Q E hr h => ?_)
  · obtain ⟨wd, kd, B, here, kvs, H0, rfl, _⟩ := h
    rfl
  · obtain ⟨wd, kd, B, here, kvs, H0, rfl, hW, hs0, hd0, G, hd, hnd, hlen, hsub, k⟩ := h
    have hu := hu_of hr
    refine ⟨_, pss_cons (ps_set (i := 2) scWithin.nd rfl (Or.inl rfl) pe_dnewK)
      (pss_cons (ps_lock (ps_for PassesOwn.never rfl (pi_keys (pv 1)) (pg_name (i := 3) scWithin.nd rfl (Or.inl rfl))
        (pss_one (ps_dput hu (pv 2) (pv 3) (pe_call L.ok hr rfl L.gl L.kp L.bd .nil pass0 (pa_cons (pe_dget hu (pv 0) (pv 3) (fun _ _ => rfl)) (pa_cons (pv 1) pa_nil))) rfl))))
      (pss_one (ps_ret (pv 2)))), ?_⟩
    intro r hr0
    have n0 : Same H (upd H r (.dK [])) := same_new hr0
    have hrr : upd H r (.dK []) r = some (.dK []) := upd_same
    generalize upd H r (.dK []) = H1 at n0 hrr ⊢
    have hd1 := n0 _ _ hd
    have hrd : r ≠ kd := fun z => by rw [z, hd] at hr0; cases hr0
    refine ⟨kd, _, hd1, trivial, fun od => ?_⟩
    have hal : upd H1 kd (.frz od (.dK (dN kvs))) kd = some (.frz od (.dK (dN kvs))) := upd_same
    have hsl : Same H0 (upd H1 kd (.frz od (.dK (dN kvs)))) := same_into (hs0.trans n0) hd0
    have hrl : upd H1 kd (.frz od (.dK (dN kvs))) r = some (.dK []) := by rw [upd_ne hrd]; exact hrr
    have hHL : ∀ b o, H b = some o → b ≠ kd → upd H1 kd (.frz od (.dK (dN kvs))) b = some o := fun b o e hb => by
      rw [upd_ne hb]
      exact n0 _ _ e
    generalize upd H1 kd (.frz od (.dK (dN kvs))) = HL at hal hsl hrl hHL ⊢
    let kept := kvs.map (·.1)
    refine ⟨_, rfl, kd, od, rfl, .inl ⟨_, hal, for_it walk_keys (fun i σ H' => ∃ v : Option V, σ = [some (.ref wd), some (.ref kd), some (.ref r), v] ∧ (∀ b o, HL b = some o → b ≠ r → H' b = some o) ∧ WaysAt H' r ((kvs.take i).map (·.1)) (fun s => leftH (here s) kept)) ?_ ?_ ?_ ?_⟩⟩
    · exact ⟨none, rfl, fun b o e _ => e, fun _ => 0, hrl, fun x hx => absurd hx (by rw [List.take_zero]; exact List.not_mem_nil)⟩
    · rintro i σ H' hi ⟨v, rfl, hs, _⟩
      exact hs _ _ hal hrd.symm
    · rintro i x σ H2 H' hi ⟨v, rfl, hs, q, g1, g2⟩ ⟨rfl, kk, vv, hkv, rfl⟩
      rw [dN_len] at hi
      obtain ⟨x, hx⟩ := get_some hi
      rw [dN_get hx] at hkv
      cases hkv
      have hkey := key_at hnd hx
      have hB : x.1 ∈ B := hsub _ (List.mem_map.mpr ⟨x, List.mem_of_getElem? hx, rfl⟩)
      have hs03 : Same H0 H' := fun b o e => hs b o (hsl _ _ e) fun z => by
        have h1 := hs0 _ _ e
        rw [z, hr0] at h1
        cases h1
      obtain ⟨p, w1, w2⟩ := hW
      refine ⟨_, rfl, _, rfl, wd, _, rfl, dget_ref (Rd.of (hs03 _ _ w1)) hB, _, rfl, p x.1, kd, here x.1, kvs, rfl, (w2 _ hB).2.same hs03, G.kn _ hB, Nat.le_trans (G.ks _ hB) (by decide), G.short hB, .inr ⟨od, hs _ _ hal hrd.symm⟩, fun H3 la hs3 hla hh => ?_⟩
      have g1' := hs3 _ _ g1
      have hlr : la ≠ r := fun z => by rw [z, g1] at hla; cases hla
      refine ⟨_, rfl, _, rfl, r, _, rfl, DPut.k (k := Sum.inl (x.1 : Int)) g1' ?_, _, rfl, fun b o e hb => ?_, setA q x.1 la, ?_, fun s hs' => ?_⟩
      · rw [dR_len, List.length_map, List.length_take]
        exact small1000 (by omega)
      · rw [upd_ne hb]
        exact hs3 _ _ (hs b o e hb)
      · rw [upd_same, keys_more hx]
        exact congrArg (fun z => some (HO.dK z)) (dR_put la hkey)
      · rw [keys_more hx] at hs'
        rcases List.mem_append.mp hs' with z | z
        · have hne : s ≠ x.1 := fun e => hkey (e ▸ z)
          rw [setA_ne hne]
          exact ⟨(g2 s z).1, ((g2 s z).2.same hs3).other (g2 s z).1 g1'⟩
        · rw [List.mem_singleton.mp z, setA_same]
          exact ⟨hlr, hh.other hlr g1'⟩
    · rintro σ H' ⟨v, rfl, hs, hWr⟩
      rw [dN_len, List.take_length] at hWr
      have hal' := hs _ _ hal hrd.symm
      refine ⟨hal', ?_⟩
      have fin : Same H (upd H' kd (.dK (dN kvs))) := fun b o e => by
        by_cases hb : b = kd
        · rw [hb, upd_same, ← hd, ← hb]
          exact e
        · rw [upd_ne hb]
          exact hs b o (hHL b o e hb) fun z => by rw [z, hr0] at e; cases e
      obtain ⟨q, g1, g2⟩ := hWr
      have hne : ∀ {b o}, H' b = some o → (∀ od u, o ≠ .frz od u) → b ≠ kd := fun {b o} e ho z => by
        rw [z, hal'] at e
        cases e
        exact ho _ _ rfl
      refine ⟨_, rfl, k _ r fin hr0 ⟨q, by rw [upd_ne hrd]; exact g1, fun s hs' => ?_⟩⟩
      obtain ⟨a1, pp, b1, b2⟩ := g2 s hs'
      refine ⟨a1, pp, ?_, fun x hx => ?_⟩
      · rw [upd_ne (hne b1 fun _ _ z => nomatch z)]
        exact b1
      · rw [upd_ne (hne (b2 x hx) fun _ _ z => nomatch z)]
        exact b2 x hx
end
end Sh
set_option Elab.async false
set_option maxRecDepth 100000
set_option maxHeartbeats 2000000
namespace Sh
open PySem PySem.Spec PyProof.Rows L2
def spHopeful : Sp := fun vs H Q _ => ∃ (wd : Addr) (t : Pn07.Task), vs = [.ref wd, iV t.goal] ∧ Wf t ∧ WaysAt H wd t.states (hereT t) ∧
  ∀ (H' : Hp) (q : Addr) (B : List Nat) (here : Nat → Here), Same H H' → WaysAt H' q B here → HopeEnd t B here → Q (.ref q) H'
section
variable {P : Program} {w : World} {K : PySem.W.Frag} {mg : Str → Option Value} {base : Heap} {CA : Addr}
theorem scHopeful : FnScope ["ways", "wanted", "within", "kept"] ["ways", "wanted"] (defScope sHopeful) := ⟨rfl, rfl, rfl, by decide +kernel, rfl, by decide +kernel, by decide +kernel⟩
theorem ok_hopeful {f fL fW fy : Addr} {fd fdL fdW fdy : FuncData} (F : Fun K "hopeful_ways" "hopeful_ways" sHopeful f fd) (L : Cal P w K mg base "levels_of" 5 ["ways", "wanted", "serves"] (spLevels false fy) fL fdL) (W : Cal P w K mg base "ways_within" 2 ["ways", "kept"] spWithin fW fdW)
    (Y : Cal P w K mg base "any_up_to" 2 ["states", "levels", "top"] (spUp false) fy fdy) (mL : mg "len" = none) : FnOk P w K mg base CX0 6 f fd ["ways", "wanted"] spHopeful := by
  refine F.ok scHopeful (fun vs H Q E h => ?_) (fun cdv A outer s H vs Q E hr h => ?_)
  · obtain ⟨wd, t, rfl, _⟩ := h
    rfl
  · obtain ⟨wd, t, rfl, wf, hW, k⟩ := h
    have hr2 : Room 2 _ := hr.mono (by decide)
    refine ⟨_, pss_cons (ps_set (i := 2) scHopeful.nd rfl (Or.inl rfl) (pv 0))
      (pss_cons (ps_set (i := 3) scHopeful.nd rfl (Or.inl rfl) (pe_call L.ok hr rfl L.gl L.kp L.bd .nil pass0 (pa_cons (pv 2) (pa_cons (pv 1) (pa_cons (pe_glob rfl Y.gl (v := .ref fy) rfl) pa_nil)))))
      (pss_cons (ps_while PassesOwn.never (pt_cmpR op_lt (pe_callB call_lenD (by rfl) mL PySem.boot_len (pa_cons (pv 3) pa_nil)) (pe_callB call_lenD (by rfl) mL PySem.boot_len (pa_cons (pv 2) pa_nil)) (nomark _))
        (pss_cons (ps_set (i := 2) scHopeful.nd rfl (Or.inl rfl) (pe_call W.ok hr2 rfl W.gl W.kp W.bd .nil pass0 (pa_cons (pv 2) (pa_cons (pv 3) pa_nil))))
        (pss_one (ps_set (i := 3) scHopeful.nd rfl (Or.inl rfl) (pe_call L.ok hr rfl L.gl L.kp L.bd .nil pass0 (pa_cons (pv 2) (pa_cons (pv 1) (pa_cons (pe_glob rfl Y.gl (v := .ref fy) rfl) pa_nil))))))))
      (pss_one (ps_ret (pv 2))))), ?_⟩
    have hst := hope_start wf
    refine ⟨_, rfl, _, rfl, _, rfl, wd, t.states, hereT t, t.goal, rfl, hW, hst.good, fun H1 kd hs1 hkd0 hkd => ?_⟩
    refine ⟨fun ms σ H' => ∃ (ia kd : Addr) (B : List Nat) (here : Nat → Here) (H0 : Hp), σ = [some (.ref wd), some (iV t.goal), some (.ref ia), some (.ref kd)] ∧ Same H H' ∧ WaysAt H0 ia B here ∧ Same H0 H' ∧ H0 kd = none ∧ HopeInv t B here ∧ (∀ s ∈ B, s < sz t) ∧ H' kd = some (.dK (dN (prs (lvW false B here t.goal)))) ∧ ms = B.length,
      ⟨_, wd, kd, t.states, hereT t, H, rfl, hs1, hW, hs1, hkd0, hst, fun s hs => mem_states.mp hs, hkd, rfl⟩, ?_⟩
    rintro ms σ H2 ⟨ia, kd, B, here, H0, rfl, hs2, hW0, hs02, hk0, inv, hlt, hk2, rfl⟩
    obtain ⟨p, w1, w2⟩ := id hW0
    refine ⟨_, rfl, kd, _, rfl, hk2, _, rfl, ia, _, rfl, hs02 _ _ w1, _, _, rfl, rfl, _, rfl, ?_⟩
    have hfl := lvW_flat (m := false) (here := here) (g := t.goal) inv.good.nd
    have hkeys : (prs (lvW false B here t.goal)).map (·.1) = (lvW false B here t.goal).flatten := prs_keys _ 0
    refine ite_by (c' := decide ((lvW false B here t.goal).flatten.length < B.length)) (by rw [dN_len, dR_len, prs_len]; exact decide_eq_decide.mpr (by omega)) (fun hz => ?_) (fun hz => ?_)
    · have hz := of_decide_eq_true hz
      refine ⟨fun σ' H3 => ∃ m', m' < B.length ∧ ∃ (ia kd : Addr) (B : List Nat) (here : Nat → Here) (H0 : Hp), σ' = [some (.ref wd), some (iV t.goal), some (.ref ia), some (.ref kd)] ∧ Same H H3 ∧ WaysAt H0 ia B here ∧ Same H0 H3 ∧ H0 kd = none ∧ HopeInv t B here ∧ (∀ s ∈ B, s < sz t) ∧ H3 kd = some (.dK (dN (prs (lvW false B here t.goal)))) ∧ m' = B.length,
        fun σ' H3 q => q, ?_⟩
      refine ⟨_, rfl, _, rfl, ia, kd, B, here, prs (lvW false B here t.goal), H0, rfl, hW0, hs02, hk0, inv.good, hk2, (by rw [hkeys]; exact hfl.nd), ?_, (by rw [hkeys]; exact hfl.sub), fun H3 q hs3 hq hWq => ?_⟩
      · rw [prs_len]
        have := hfl.len
        have := inv.good.few
        omega
      · rw [hkeys] at hWq
        have inv2 := inv.next hlt hz
        refine ⟨_, rfl, _, rfl, q, _, _, t.goal, rfl, hWq, inv2.good, fun H4 kd' hs4 hk4 hk4' => ?_⟩
        exact ⟨_, hz, q, kd', _, _, H3, rfl, (hs2.trans hs3).trans hs4, hWq, hs4, hk4, inv2, fun s hs => hlt s (hfl.sub s hs), hk4', rfl⟩
    · exact ⟨_, rfl, k H2 ia B here hs2 (hW0.same hs02) (inv.stop hlt (of_decide_eq_false hz))⟩
end
end Sh
set_option Elab.async false
set_option maxRecDepth 100000
set_option maxHeartbeats 2000000
namespace Sh
open PySem PySem.Spec PyProof.Rows L2
def spFirstT : Sp := fun vs H Q _ => ∃ (la : Addr) (ts : List Addr) (o : List (Nat × Nat)) (g : Nat), vs = [.ref la, iV g] ∧ H la = some (.lst (ts.map V.ref)) ∧ Paired (OutAt H) ts o ∧ o.length ≤ 1000 ∧
  ∀ (H' : Hp) (q : Addr) (rl : List (Nat × Nat)), Same H H' → H q = none → H' q = some (.dK (dN rl)) → (∀ s, rl.lookup s = if doneW g s = true then none else Pn07.ruleOf o s) → Q (.ref q) H'
def spWaysBy : Sp := fun vs H Q _ => ∃ (wd rd : Addr) (B : List Nat) (here : Nat → Here) (rl : List (Nat × Nat)), vs = [.ref wd, .ref rd] ∧ WaysAt H wd B here ∧ GoodW B here ∧ H rd = some (.dK (dN rl)) ∧
  ∀ (H' : Hp) (q : Addr), Same H H' → H q = none → WaysAt H' q B (ruledH here rl) → Q (.ref q) H'
theorem ruleOf_more {o : List (Nat × Nat)} {i : Nat} {x : Nat × Nat} (h : o[i]? = some x) (s : Nat) : Pn07.ruleOf (o.take (i + 1)) s = (Pn07.ruleOf (o.take i) s).or (if s = x.1 then some x.2 else none) := by
  unfold Pn07.ruleOf
  rw [take_more h, List.find?_append]
  by_cases e : s = x.1
  · rw [if_pos e, List.find?_cons_of_pos (by simp [e])]
    cases (o.take i).find? fun y => y.1 == s <;> rfl
  · rw [if_neg e, List.find?_cons_of_neg (by simp; exact fun z => e z.symm), List.find?_nil]
    cases (o.take i).find? fun y => y.1 == s <;> rfl
theorem WaysAt.put {H : Hp} {r la : Addr} {ks : List Nat} {here : Nat → Here} {s : Nat} {q : Nat → Addr} (g1 : H r = some (.dK (dR q ks))) (g2 : ∀ u ∈ ks, q u ≠ r ∧ HereAt H (q u) (here u)) (hs : s ∉ ks) (hla : la ≠ r) (hh : HereAt H la (here s)) :
    WaysAt (upd H r (.dK (putK (dR q ks) (Sum.inl (s : Int)) (V.ref la)))) r (ks ++ [s]) here := by
  refine ⟨setA q s la, ?_, fun u hu => ?_⟩
  · rw [upd_same, dR_put la hs]
  · rcases List.mem_append.mp hu with z | z
    · have hne : u ≠ s := fun e => hs (e ▸ z)
      rw [setA_ne hne]
      exact ⟨(g2 u z).1, (g2 u z).2.other (g2 u z).1 g1⟩
    · rw [List.mem_singleton.mp z, setA_same]
      exact ⟨hla, hh.other hla g1⟩
theorem item_dR {B : List Nat} {p : Nat → Addr} {i : Nat} {y z : V} (hi : i < (dR p B).length) (hy : ((dR p B)[i]?.map fun kv => kV kv.1) = some y) (hz : (dR p B)[i]?.map Prod.snd = some z) : ∃ s, B[i]? = some s ∧ y = iV s ∧ z = .ref (p s) := by
  rw [dR_len] at hi
  obtain ⟨x, hx⟩ := get_some hi
  rw [dR_get hx] at hy hz
  cases hy
  cases hz
  exact ⟨x, hx, rfl, rfl⟩
theorem mem_at {B : List Nat} {i s : Nat} (hn : B.Nodup) (h : B[i]? = some s) : s ∉ B.take i := nodup_at (a := []) hn h
section
variable {P : Program} {w : World} {K : PySem.W.Frag} {mg : Str → Option Value} {base : Heap} {CA : Addr}
theorem scFirstT : FnScope ["pairs", "wanted", "rule", "state", "number"] ["pairs", "wanted"] (defScope sFirstT) := ⟨rfl, rfl, rfl, by decide +kernel, rfl, by decide +kernel, by decide +kernel⟩
theorem ok_firstt {f fW : Addr} {fd fdW : FuncData} (F : Fun K "first_told" "first_told" sFirstT f fd) (W : Cal P w K mg base "is_as_wanted" 1 ["state", "wanted"] spWanted fW fdW) : FnOk P w K mg base CX0 2 f fd ["pairs", "wanted"] spFirstT := by
  refine F.ok scFirstT (fun vs H Q E h => ?_) (fun cdv A outer s H vs Q E hr h => ?_)
  · obtain ⟨la, ts, o, g, rfl, _⟩ := h
    rfl
  · obtain ⟨la, ts, o, g, rfl, hl, hp, hlen, k⟩ := h
    have hu := hu_of hr
    refine ⟨_, pss_cons (ps_set (i := 2) scFirstT.nd rfl (Or.inl rfl) pe_dnewK)
      (pss_cons (ps_for PassesOwn.never rfl (pi_list (pv 0)) (pg_tup rfl (pgs_cons (pg_name (i := 3) scFirstT.nd rfl (Or.inl rfl)) (pgs_cons (pg_name (i := 4) scFirstT.nd rfl (Or.inl rfl)) pgs_nil)))
        (pss_one (ps_if (PW.pt (pw_and (pt_cmp (pc_dnotin hu (pv 3) (pv 2))) (pw_and1 (pt_not (pt_val (pe_call W.ok hr rfl W.gl W.kp W.bd .nil pass0 (pa_cons (pv 3) (pa_cons (pv 1) pa_nil))))))))
          (pss_one (ps_dput hu (pv 2) (pv 3) (pv 4) rfl)) pss_nil)))
      (pss_one (ps_ret (pv 2)))), ?_⟩
    intro r hr0
    have n0 : Same H (upd H r (.dK [])) := same_new hr0
    have hrr : upd H r (.dK []) r = some (.dK (dN [])) := upd_same
    generalize upd H r (.dK []) = H1 at n0 hrr ⊢
    refine ⟨_, rfl, la, rfl, ⟨_, SqL.of (n0 _ _ hl)⟩, for_list (K := K) (a := la) (xs := ts.map V.ref) (fun i σ H' => ∃ (v u : Option V) (rl : List (Nat × Nat)), σ = [some (.ref la), some (iV g), some (.ref r), v, u] ∧ Same H H' ∧ H' r = some (.dK (dN rl)) ∧ rl.length ≤ i ∧ ∀ s, rl.lookup s = if doneW g s = true then none else Pn07.ruleOf (o.take i) s) ?_ ?_ ?_ ?_⟩
    · refine ⟨none, none, [], rfl, n0, hrr, Nat.le_refl _, fun s => ?_⟩
      split <;> rfl
    · rintro i σ H' hi ⟨v, u, rl, rfl, hs, _⟩
      exact SqL.of (hs _ _ hl)
    · rintro i x σ H' hx ⟨v, u, rl, rfl, hs, hrl, hrn, hlk⟩
      rw [List.getElem?_map] at hx
      cases e : ts[i]? with
      | none => rw [e] at hx; cases hx
      | some tq =>
        rw [e] at hx
        cases hx
        obtain ⟨x, hx, ht⟩ := paired_get' hp e
        have hi : i < o.length := (List.getElem?_eq_some_iff.mp hx).1
        refine ⟨tq, _, rfl, SqT.of (hs _ _ ht), rfl, _, _, rfl, _, _, rfl, rfl, ?_⟩
        refine ⟨_, rfl, _, rfl, r, _, rfl, DGet.k (k := Sum.inl (x.1 : Int)) hrl, _, rfl, ?_⟩
        have hx1 := hlk x.1
        have stay : (∀ s, ¬ doneW g s = true → s = x.1 → (Pn07.ruleOf (o.take i) s).isSome = true) → ∀ s, rl.lookup s = if doneW g s = true then none else Pn07.ruleOf (o.take (i + 1)) s := fun hst s => by
          rw [hlk s, ruleOf_more hx]
          by_cases hd : doneW g s = true
          · rw [if_pos hd, if_pos hd]
          · rw [if_neg hd, if_neg hd]
            by_cases es : s = x.1
            · obtain ⟨z, hz⟩ := Option.isSome_iff_exists.mp (hst s hd es)
              rw [hz]
              rfl
            · rw [if_neg es, Option.or_none]
        cases hlx : rl.lookup x.1 with
        | some n =>
          refine ite_by (c' := false) (by rw [dN_val, hlx]; rfl) (fun z => nomatch z) (fun _ => if_false_of rfl ?_)
          refine ⟨_, _, rl, rfl, hs, hrl, by omega, stay fun s hd es => ?_⟩
          subst es
          rw [if_neg hd] at hx1
          rw [← hx1, hlx]
          rfl
        | none =>
          refine ite_by (c' := true) (by rw [dN_val, hlx]; rfl) (fun _ => ?_) (fun z => nomatch z)
          refine ⟨_, rfl, _, rfl, x.1, g, rfl, _, rfl, ?_⟩
          refine ite_by (c' := !doneW g x.1) rfl (fun hd => ?_) (fun hd => ?_)
          · have hd : doneW g x.1 = false := by simpa using hd
            refine ⟨_, rfl, _, rfl, _, rfl, r, _, rfl, DPut.k (k := Sum.inl (x.1 : Int)) hrl (by rw [dN_len]; exact small1000 (by omega)), _, _, rl ++ [(x.1, x.2)], rfl, same_into hs hr0, ?_, ?_, fun s => ?_⟩
            · rw [upd_same]
              exact congrArg (fun z => some (HO.dK z)) (dN_put x.2 hlx)
            · rw [List.length_append]
              show rl.length + 1 ≤ i + 1
              omega
            · rw [lookup_snoc hlx, ruleOf_more hx, hlk s]
              by_cases es : s = x.1
              · subst es
                rw [if_pos rfl, if_neg (by rw [hd]; exact Bool.false_ne_true), if_pos rfl]
                rw [hlx, if_neg (by rw [hd]; exact Bool.false_ne_true)] at hx1
                rw [← hx1]
                rfl
              · rw [if_neg es, if_neg es, Option.or_none]
          · have hd : doneW g x.1 = true := by simpa using hd
            exact ⟨_, _, rl, rfl, hs, hrl, by omega, stay fun s hd' es => absurd (by rw [es]; exact hd) hd'⟩
    · rintro σ H' ⟨v, u, rl, rfl, hs, hrl, hrn, hlk⟩
      rw [List.length_map, paired_len hp, List.take_length] at hlk
      exact ⟨_, rfl, k H' r rl hs hr0 hrl hlk⟩
theorem scWaysBy : FnScope ["ways", "rule", "ruled", "state", "ways_here", "number"] ["ways", "rule"] (defScope sWaysBy) := ⟨rfl, rfl, rfl, by decide +kernel, rfl, by decide +kernel, by decide +kernel⟩
theorem ok_waysby {f : Addr} {fd : FuncData} (F : Fun K "ways_by" "ways_by" sWaysBy f fd) : FnOk P w K mg base CX0 1 f fd ["ways", "rule"] spWaysBy := by
  refine F.ok scWaysBy (fun vs H Q E h => ?_) (fun cdv A outer s H vs Q E hr h => ?_)
  · obtain ⟨wd, rd, B, here, rl, rfl, _⟩ := h
    rfl
  · obtain ⟨wd, rd, B, here, rl, rfl, ⟨p, w1, w2⟩, G, hrd, k⟩ := h
    have hu := hu_of hr
    refine ⟨_, pss_cons (ps_set (i := 2) scWaysBy.nd rfl (Or.inl rfl) pe_dnewK)
      (pss_cons (ps_lock (ps_for PassesOwn.never rfl (pi_items (pv 0)) (pg_tup rfl (pgs_cons (pg_name (i := 3) scWaysBy.nd rfl (Or.inl rfl)) (pgs_cons (pg_name (i := 4) scWaysBy.nd rfl (Or.inl rfl)) pgs_nil)))
        (pss_cons (ps_set (i := 5) scWaysBy.nd rfl (Or.inl rfl) (pe_dget1 hu (pv 1) (pv 3) ⟨rfl, rfl, rfl, rfl⟩))
        (pss_one (ps_dput hu (pv 2) (pv 3) (pe_ifExp (pt_cmp (pc_dinN hu (pv 5) (pv 4))) (pe_disp (pps_cons (pv 5) (pe_dget hu (pv 4) (pv 5) (fun _ _ => rfl)) pps_nil) (by rfl) (by rfl) (fun z => by cases z) (by decide)) pe_dnewK) rfl)))))
      (pss_one (ps_ret (pv 2)))), ?_⟩
    intro r hr0
    have n0 : Same H (upd H r (.dK [])) := same_new hr0
    have hrr : upd H r (.dK []) r = some (.dK []) := upd_same
    generalize upd H r (.dK []) = H1 at n0 hrr ⊢
    have w11 := n0 _ _ w1
    have hrw : r ≠ wd := fun z => by rw [z, w1] at hr0; cases hr0
    refine ⟨wd, _, w11, trivial, fun od => ?_⟩
    have hkl := rd_lock (od := od) w11 trivial (Rd.of (n0 _ _ hrd))
    have hkr : rd ≠ r := fun z => by rw [z, hr0] at hrd; cases hrd
    have hal : upd H1 wd (.frz od (.dK (dR p B))) wd = some (.frz od (.dK (dR p B))) := upd_same
    have hrl : upd H1 wd (.frz od (.dK (dR p B))) r = some (.dK []) := by rw [upd_ne hrw]; exact hrr
    have hhl : ∀ s ∈ B, HereAt (upd H1 wd (.frz od (.dK (dR p B)))) (p s) (here s) := fun s hs => ((w2 s hs).2.same n0).other (w2 s hs).1 w11
    have hHL : ∀ b o, H b = some o → b ≠ wd → upd H1 wd (.frz od (.dK (dR p B))) b = some o := fun b o e hb => by
      rw [upd_ne hb]
      exact n0 _ _ e
    have hpr : ∀ s ∈ B, p s ≠ r := fun s hs z => by
      obtain ⟨_, q, _⟩ := (w2 s hs).2
      rw [z, hr0] at q
      cases q
    have hlr : ∀ s ∈ B, ∀ pp : Nat → Addr, ∀ us : List V, ∀ k : Nat, H (pp k) = some (.lst us) → pp k ≠ r := fun s hs pp us k e z => by
      rw [z, hr0] at e
      cases e
    have hhr : ∀ s ∈ B, ∀ H' : Hp, (∀ b o, upd H1 wd (.frz od (.dK (dR p B))) b = some o → b ≠ r → H' b = some o) → HereAt H' (p s) (here s) := fun s hs H' ka => by
      obtain ⟨pp, q1, q2⟩ := (w2 s hs).2
      refine ⟨pp, ka _ _ (hHL _ _ q1 (w2 s hs).1) (hpr s hs), fun x hx => ?_⟩
      have := q2 x hx
      exact ka _ _ (hHL _ _ this (lst_ne this w1)) fun z => by rw [z, hr0] at this; cases this
    generalize upd H1 wd (.frz od (.dK (dR p B))) = HL at hkl hal hrl hhl hHL hhr ⊢
    refine ⟨_, rfl, wd, od, _, rfl, hal, for_it walk_items (fun i σ H' => ∃ (v3 v4 v5 : Option V), σ = [some (.ref wd), some (.ref rd), some (.ref r), v3, v4, v5] ∧ (∀ b o, HL b = some o → b ≠ r → H' b = some o) ∧ WaysAt H' r (B.take i) (ruledH here rl)) ?_ ?_ ?_ ?_⟩
    · exact ⟨none, none, none, rfl, fun b o e _ => e, fun _ => 0, hrl, fun s hs => absurd hs (by rw [List.take_zero]; exact List.not_mem_nil)⟩
    · rintro i σ H' hi ⟨_, _, _, rfl, hs, _⟩
      exact hs _ _ hal hrw.symm
    · rintro i x σ H2 H' hi ⟨v3, v4, v5, rfl, hs, hWr⟩ ⟨tq, y, z, rfl, hT, rfl, hy, hz⟩
      obtain ⟨s, hx, rfl, rfl⟩ := item_dR hi hy hz
      have hsB := List.mem_of_getElem? hx
      have hno := mem_at G.nd hx
      have hn2 := same_new (o := .tup [iV s, .ref (p s)]) hT
      have hWr3 := hWr.same hn2
      have hs3 : ∀ b o, HL b = some o → b ≠ r → upd H2 tq (.tup [iV s, .ref (p s)]) b = some o := fun b o e hb => hn2 _ _ (hs b o e hb)
      refine ⟨tq, _, rfl, SqT.of upd_same, rfl, _, _, rfl, _, _, rfl, rfl, ?_⟩
      generalize upd H2 tq (.tup [iV s, .ref (p s)]) = H3 at hWr3 hs3 ⊢
      have hk3 : Rd H3 rd (.dK (dN rl)) := by
        rcases hkl with q | ⟨o, q⟩
        · exact .inl (hs3 _ _ q hkr)
        · exact .inr ⟨o, hs3 _ _ q hkr⟩
      have hh3 := hhr s hsB H3 hs3
      obtain ⟨pp, q1, q2⟩ := hh3
      refine ⟨_, rfl, rd, rfl, .inl ⟨_, hk3⟩, _, rfl, _, dget_rd hk3 s, ?_⟩
      -- what is put
      have fin : ∀ (H4 : Hp) (dp : Addr), Same H3 H4 → H3 dp = none → HereAt H4 dp (ruledH here rl s) → ∃ q1, H4 r = some (.dK (dR q1 (B.take i))) ∧ dp ≠ r ∧ (∀ b o, HL b = some o → b ≠ r → upd H4 r (.dK (putK (dR q1 (B.take i)) (Sum.inl (s : Int)) (V.ref dp))) b = some o) ∧
          WaysAt (upd H4 r (.dK (putK (dR q1 (B.take i)) (Sum.inl (s : Int)) (V.ref dp)))) r (B.take (i + 1)) (ruledH here rl) := fun H4 dp hs4 hdp hh => by
        obtain ⟨q1, g1, g2⟩ := hWr3
        have hdr : dp ≠ r := fun z => by rw [z, g1] at hdp; cases hdp
        refine ⟨q1, hs4 _ _ g1, hdr, fun b o e hb => by rw [upd_ne hb]; exact hs4 _ _ (hs3 b o e hb), ?_⟩
        rw [take_more hx]
        exact WaysAt.put (hs4 _ _ g1) (fun u hu => ⟨(g2 u hu).1, (g2 u hu).2.same hs4⟩) hno hdr hh
      have hsz : ∀ q1 : Nat → Addr, (dR q1 (B.take i)).length < sizeLine := fun q1 => by
        rw [dR_len, List.length_take]
        have := G.few
        exact small1000 (by omega)
      cases hl : rl.lookup s with
      | none =>
        have hru : ruledH here rl s = [] := by unfold ruledH; rw [hl]
        refine ⟨_, rfl, _, rfl, .inr ⟨p s, _, rfl, rfl, Rd.of q1, _, rfl, if_false_of rfl fun dp hdp => ?_⟩⟩
        obtain ⟨qq, g1, hdr, ka, hw⟩ := fin _ dp (same_new hdp) hdp (by rw [hru]; exact ⟨fun _ => 0, upd_same, fun x hx => absurd hx List.not_mem_nil⟩)
        exact ⟨_, rfl, _, rfl, r, _, rfl, DPut.k (k := Sum.inl (s : Int)) g1 (hsz _), _, _, _, rfl, ka, hw⟩
      | some kk =>
        have hg : DGet H3 (p s) (iV kk) (if kk ∈ (here s).map (·.1) then some (V.ref (pp kk)) else none) := .inl ⟨_, Sum.inl (kk : Int), Rd.of q1, rfl, (dR_val _ _ _).symm⟩
        refine ⟨_, rfl, _, rfl, .inl ⟨p s, _, rfl, hg, _, rfl, ?_⟩⟩
        cases hlk : (here s).lookup kk with
        | none =>
          have hru : ruledH here rl s = [] := by unfold ruledH; rw [hl]; simp only; rw [hlk]
          refine ite_by (c' := false) (by rw [if_neg (lookup_noneH.mp hlk)]; rfl) (fun z => nomatch z) (fun _ dp hdp => ?_)
          obtain ⟨qq, g1, hdr, ka, hw⟩ := fin _ dp (same_new hdp) hdp (by rw [hru]; exact ⟨fun _ => 0, upd_same, fun x hx => absurd hx List.not_mem_nil⟩)
          exact ⟨_, rfl, _, rfl, r, _, rfl, DPut.k (k := Sum.inl (s : Int)) g1 (hsz _), _, _, _, rfl, ka, hw⟩
        | some us =>
          have hru : ruledH here rl s = [(kk, us)] := by unfold ruledH; rw [hl]; simp only; rw [hlk]
          have hin := lookup_in hlk
          have hmk : kk ∈ (here s).map (·.1) := List.mem_map.mpr ⟨_, hin, rfl⟩
          rw [if_pos hmk] at hg
          refine ite_by (c' := true) (by rw [if_pos hmk]; rfl) (fun _ dp hdp => ?_) (fun z => nomatch z)
          have n4 := same_new (o := .dK []) hdp
          have hg4 : DGet (upd H3 dp (.dK [])) (p s) (iV kk) (some (V.ref (pp kk))) := .inl ⟨_, Sum.inl (kk : Int), Rd.of (n4 _ _ q1), rfl, by rw [dR_val, if_pos hmk]⟩
          refine ⟨_, rfl, _, rfl, _, rfl, p s, _, rfl, hg4, upd_same, [(Sum.inl (kk : Int), V.ref (pp kk))], rfl, (by show 1 ≤ 15; decide), ?_⟩
          obtain ⟨qq, g1, hdr, ka, hw⟩ := fin (upd (upd H3 dp (.dK [])) dp (.dK (mergeK [] [(Sum.inl (kk : Int), V.ref (pp kk))]))) dp (same_into n4 hdp) hdp (by
            rw [hru]
            refine ⟨pp, upd_same, fun x hx => ?_⟩
            have e := q2 _ hin
            rw [List.mem_singleton.mp hx]
            rw [upd_ne (ne_of_none e hdp), upd_ne (ne_of_none e hdp)]
            exact e)
          exact ⟨_, rfl, _, rfl, r, _, rfl, DPut.k (k := Sum.inl (s : Int)) g1 (hsz _), _, _, _, rfl, ka, hw⟩
    · rintro σ H' ⟨_, _, _, rfl, hs, q, g1, g2⟩
      rw [dR_len, List.take_length] at g1 g2
      have hal' := hs _ _ hal hrw.symm
      refine ⟨hal', ?_⟩
      have fin : Same H (upd H' wd (.dK (dR p B))) := fun b o e => by
        by_cases hb : b = wd
        · rw [hb, upd_same, ← w1, ← hb]
          exact e
        · rw [upd_ne hb]
          exact hs b o (hHL b o e hb) fun z => by rw [z, hr0] at e; cases e
      have hne : ∀ {b o}, H' b = some o → (∀ od u, o ≠ .frz od u) → b ≠ wd := fun {b o} e ho z => by
        rw [z, hal'] at e
        cases e
        exact ho _ _ rfl
      refine ⟨_, rfl, k _ r fin hr0 ⟨q, by rw [upd_ne hrw]; exact g1, fun s hs' => ?_⟩⟩
      obtain ⟨a1, pp, b1, b2⟩ := g2 s hs'
      refine ⟨a1, pp, ?_, fun x hx => ?_⟩
      · rw [upd_ne (hne b1 fun _ _ z => nomatch z)]
        exact b1
      · rw [upd_ne (hne (b2 x hx) fun _ _ z => nomatch z)]
        exact b2 x hx
end
end Sh
set_option Elab.async false
set_option maxRecDepth 100000
set_option maxHeartbeats 2000000
namespace Sh
open PySem PySem.Spec PyProof.Rows L2
theorem ints_nat {ys : List Int} {l : List Nat} (hp : ys.Perm (l.map fun n : Nat => (n : Int))) (hs : ys.Pairwise (· ≤ ·)) : ∃ zs : List Nat, ys.map V.int = zs.map iV ∧ zs.Perm l ∧ zs.Pairwise (· ≤ ·) := by
  have hy : ∀ y ∈ ys, ((y.toNat : Nat) : Int) = y := fun y h => by
    obtain ⟨n, _, rfl⟩ := List.mem_map.mp (hp.mem_iff.mp h)
    omega
  refine ⟨ys.map Int.toNat, ?_, ?_, ?_⟩
  · rw [List.map_map]
    refine List.map_congr_left fun y h => ?_
    show V.int y = V.int ((y.toNat : Nat) : Int)
    rw [hy y h]
  · have := hp.map Int.toNat
    rw [List.map_map] at this
    have e : l.map (Int.toNat ∘ fun n : Nat => (n : Int)) = l := by
      conv => rhs; rw [← List.map_id l]
      exact List.map_congr_left fun n _ => Int.toNat_natCast n
    rw [e] at this
    exact this
  · rw [List.pairwise_map]
    exact hs.imp fun {a b} h => Int.toNat_le_toNat h
/-! ### a dict of True -/
def dS (l : List Nat) : List (Key × V) := l.map fun s : Nat => (Sum.inl (s : Int), V.bl true)
theorem dS_val (l : List Nat) (s : Nat) : valV (dS l) (Sum.inl (s : Int)) = if s ∈ l then some (V.bl true) else none := by
  induction l with
  | nil => rfl
  | cons p r ih =>
    by_cases e : p = s
    · have h1 : valV (dS (p :: r)) (Sum.inl (s : Int)) = some (V.bl true) := valV_pos (by show (Sum.inl (p : Int) : Key) = Sum.inl (s : Int); rw [e])
      rw [h1, if_pos (by rw [e]; exact List.mem_cons_self ..)]
    · have h1 : valV (dS (p :: r)) (Sum.inl (s : Int)) = valV (dS r) (Sum.inl (s : Int)) := valV_neg (by
        show ¬ (Sum.inl (p : Int) : Key) = Sum.inl (s : Int)
        intro z
        injection z with z
        omega)
      rw [h1, ih]
      by_cases m : s ∈ r
      · rw [if_pos m, if_pos (List.mem_cons_of_mem _ m)]
      · rw [if_neg m, if_neg fun z => (List.mem_cons.mp z).elim (fun z => e z.symm) m]
theorem dS_put {l : List Nat} {s : Nat} (h : s ∉ l) : putK (dS l) (Sum.inl (s : Int)) (V.bl true) = dS (l ++ [s]) := by
  have e : valV (dS l) (Sum.inl (s : Int)) = none := by rw [dS_val, if_neg h]
  rw [putK_new _ e]
  unfold dS
  rw [List.map_append]
  rfl
theorem dS_keys (l : List Nat) : (dS l).map (·.1) = (l.map fun n : Nat => (n : Int)).map Sum.inl := by
  unfold dS
  rw [List.map_map, List.map_map]
  rfl
theorem dS_len (l : List Nat) : (dS l).length = l.length := by
  unfold dS
  rw [List.length_map]
theorem snoc_of {α : Type} {l : List α} (h : 0 < l.length) : ∃ r x, l = r ++ [x] := by
  have hn : l ≠ [] := fun z => by rw [z] at h; exact absurd h (Nat.lt_irrefl 0)
  exact ⟨l.dropLast, l.getLast hn, (List.dropLast_concat_getLast hn).symm⟩
/-- between two turns of come_to's loop -/
structure Walked (nx : Nat → List Nat) (s0 : Nat) (seen wait : List Nat) : Prop where
  nd : seen.Nodup
  sr : ∀ x ∈ seen, Reach nx s0 x
  wr : ∀ x ∈ wait, Reach nx s0 x
  st : s0 ∈ seen ∨ s0 ∈ wait
  cl : ∀ u ∈ seen, ∀ v ∈ nx u, v ∈ seen ∨ v ∈ wait
  few : wait.length ≤ 1 + 3 * seen.length
theorem Walked.known {nx : Nat → List Nat} {s0 : Nat} {seen wait : List Nat} {y : Nat} (h : Walked nx s0 seen (wait ++ [y])) (hy : y ∈ seen) : Walked nx s0 seen wait := by
  have sub : ∀ v, v ∈ seen ∨ v ∈ wait ++ [y] → v ∈ seen ∨ v ∈ wait := fun v q => by
    rcases q with q | q
    · exact .inl q
    · rcases List.mem_append.mp q with q | q
      · exact .inr q
      · rw [List.mem_singleton.mp q]
        exact .inl hy
  refine ⟨h.nd, h.sr, fun x hx => h.wr x (List.mem_append_left _ hx), sub _ h.st, fun u hu v hv => sub v (h.cl u hu v hv), ?_⟩
  have := h.few
  rw [List.length_append] at this
  omega
theorem Walked.new {nx : Nat → List Nat} {s0 : Nat} {seen wait : List Nat} {y : Nat} (h : Walked nx s0 seen (wait ++ [y])) (hy : y ∉ seen) (h3 : (nx y).length ≤ 3) : Walked nx s0 (seen ++ [y]) (wait ++ nx y) := by
  have hry : Reach nx s0 y := h.wr y (List.mem_append_right _ (List.mem_singleton.mpr rfl))
  have sub : ∀ v, v ∈ seen ∨ v ∈ wait ++ [y] → v ∈ seen ++ [y] ∨ v ∈ wait ++ nx y := fun v q => by
    rcases q with q | q
    · exact .inl (List.mem_append_left _ q)
    · rcases List.mem_append.mp q with q | q
      · exact .inr (List.mem_append_left _ q)
      · exact .inl (List.mem_append_right _ q)
  refine ⟨nd_snoc h.nd hy, fun x hx => ?_, fun x hx => ?_, sub _ h.st, fun u hu v hv => ?_, ?_⟩
  · rcases List.mem_append.mp hx with q | q
    · exact h.sr x q
    · rw [List.mem_singleton.mp q]
      exact hry
  · rcases List.mem_append.mp hx with q | q
    · exact h.wr x (List.mem_append_left _ q)
    · exact .step hry q
  · rcases List.mem_append.mp hu with q | q
    · exact sub v (h.cl u q v hv)
    · rw [List.mem_singleton.mp q] at hv
      exact .inr (List.mem_append_right _ hv)
  · have := h.few
    rw [List.length_append] at this ⊢
    rw [List.length_append]
    simp only [List.length_singleton] at this ⊢
    omega
def toldOf (rl : List (Nat × Nat)) (l : List Nat) : List Nat := l.flatMap fun u => match rl.lookup u with
  | some k => [u, k]
  | none => []
theorem toldOf_len (rl : List (Nat × Nat)) (l : List Nat) : (toldOf rl l).length ≤ 2 * l.length := by
  induction l with
  | nil => exact Nat.le_refl _
  | cons u r ih =>
    unfold toldOf at ih ⊢
    rw [List.flatMap_cons, List.length_append, List.length_cons]
    cases rl.lookup u with
    | none =>
      show 0 + _ ≤ _
      omega
    | some k =>
      show 2 + _ ≤ _
      omega
theorem toldOf_more {rl : List (Nat × Nat)} {l : List Nat} {i u : Nat} (h : l[i]? = some u) : toldOf rl (l.take (i + 1)) = toldOf rl (l.take i) ++ (match rl.lookup u with
  | some k => [u, k]
  | none => []) := by
  unfold toldOf
  rw [take_more h, List.flatMap_append, List.flatMap_cons, List.flatMap_nil, List.append_nil]

def spCome : Sp := fun vs H Q _ => ∃ (wd : Addr) (B : List Nat) (here : Nat → Here) (s0 : Nat), vs = [.ref wd, iV s0] ∧ WaysAt H wd B here ∧ GoodW B here ∧ s0 ∈ B ∧ (∀ u ∈ B, (nxW here u).length ≤ 3) ∧
  ∀ (H' : Hp) (q : Addr) (l : List Nat), Same H H' → H q = none → H' q = some (.lst (l.map iV)) → Rising l → (∀ x, x ∈ l ↔ Reach (nxW here) s0 x) → Q (.ref q) H'
def spTold : Sp := fun vs H Q _ => ∃ (wd rd : Addr) (B : List Nat) (here : Nat → Here) (rl : List (Nat × Nat)) (s0 : Nat), vs = [.ref wd, .ref rd, iV s0] ∧ WaysAt H wd B here ∧ GoodW B here ∧ H rd = some (.dK (dN rl)) ∧ s0 ∈ B ∧
  ∀ (H' : Hp) (q : Addr) (l : List Nat), Same H H' → H q = none → H' q = some (.lst ((toldOf rl l).map iV)) → Rising l → (∀ x, x ∈ l ↔ Reach (nxW (ruledH here rl)) s0 x) → l.length ≤ 16 → Q (.ref q) H'
theorem Reach.inB {B : List Nat} {here : Nat → Here} {s0 x : Nat} (G : GoodW B here) (hs : s0 ∈ B) (h : Reach (nxW here) s0 x) : x ∈ B := Reach.into (p := fun x => x ∈ B) hs (fun u hu v hv => nx_in G u hu v hv) h
theorem flat_take {w : Here} (i : Nat) : ((w.take i).flatMap (·.2)).length ≤ (w.flatMap (·.2)).length := by
  conv => rhs; rw [← List.take_append_drop i w]
  rw [List.flatMap_append, List.length_append]
  omega
section
variable {P : Program} {w : World} {K : PySem.W.Frag} {mg : Str → Option Value} {base : Heap} {CA : Addr}
theorem scCome : FnScope ["ways", "start", "seen", "waiting", "state", "states"] ["ways", "start"] (defScope sCome) := ⟨rfl, rfl, rfl, by decide +kernel, rfl, by decide +kernel, by decide +kernel⟩
theorem ok_come {f : Addr} {fd : FuncData} (F : Fun K "come_to" "come_to" sCome f fd) (mL : mg "len" = none) (mS : mg "sorted" = none) : FnOk P w K mg base CX0 1 f fd ["ways", "start"] spCome := by
  refine F.ok scCome (fun vs H Q E h => ?_) (fun cdv A outer s H vs Q E hr h => ?_)
  · obtain ⟨wd, B, here, s0, rfl, _⟩ := h
    rfl
  · obtain ⟨wd, B, here, s0, rfl, hW, G, hs0, h3, k⟩ := h
    have hu := hu_of hr
    refine ⟨_, pss_cons (ps_set (i := 2) scCome.nd rfl (Or.inl rfl) pe_dnewK)
      (pss_cons (ps_set (i := 3) scCome.nd rfl (Or.inl rfl) (pe_lst (pa_cons (pv 1) pa_nil)))
      (pss_cons (ps_while PassesOwn.never (pt_cmpR op_gt (pe_callB call_len_seq (by rfl) mL PySem.boot_len (pa_cons (pv 3) pa_nil)) pe_int (nomark _))
        (pss_cons (ps_set (i := 4) scCome.nd rfl (Or.inl rfl) (pe_bm0 PySem.F.plainAttrs_list PySem.F.slot_list_pop PySem.F.type_list_pop mt_pop (pv 3)))
        (pss_one (ps_if (pt_cmp (pc_dnotin hu (pv 4) (pv 2)))
          (pss_cons (ps_dput hu (pv 2) (pv 4) pe_bl rfl)
          (pss_one (ps_lock (ps_for PassesOwn.never rfl (pi_values (pe_dget hu (pv 0) (pv 4) (fun _ _ => rfl))) (pg_name (i := 5) scCome.nd rfl (Or.inl rfl))
            (pss_one (ps_expr (pe_bm PySem.F.plainAttrs_list PySem.F.slot_list_extend PySem.F.type_list_extend mt_extend (pv 3) (pa_cons (pv 5) pa_nil)))))))) pss_nil))))
      (pss_one (ps_ret (pe_callB (call_sortedDI rfl) (by rfl) mS boot_sorted (pa_cons (pv 2) pa_nil)))))), ?_⟩
    intro sa hsa
    have n1 : Same H (upd H sa (.dK [])) := same_new hsa
    refine ⟨_, rfl, (by show 1 ≤ sizeLine; decide), fun wa hwa => ?_⟩
    have hwa0 : H wa = none := n1.free hwa
    have hsw : sa ≠ wa := ne_of_none upd_same hwa
    have n2 : Same H (upd (upd H sa (.dK [])) wa (.lst [iV s0])) := n1.trans (same_new hwa)
    obtain ⟨p, w1, w2⟩ := id hW
    refine ⟨fun m σ H' => ∃ (v4 v5 : Option V) (seen wait : List Nat), σ = [some (.ref wd), some (iV s0), some (.ref sa), some (.ref wa), v4, v5] ∧ Same H H' ∧ H' sa = some (.dK (dS seen)) ∧ H' wa = some (.lst (wait.map iV)) ∧ Walked (nxW here) s0 seen wait ∧
      m = wait.length + 4 * (B.length - seen.length), ⟨_, none, none, [], [s0], rfl, n2, ?_, upd_same, ?_, rfl⟩, ?_⟩
    · rw [upd_ne hsw, upd_same]
      rfl
    · refine ⟨List.nodup_nil, fun x hx => absurd hx List.not_mem_nil, fun x hx => ?_, .inr (List.mem_singleton.mpr rfl), fun x hx => absurd hx List.not_mem_nil, ?_⟩
      · rw [List.mem_singleton.mp hx]
        exact .start
      · show 1 ≤ 1 + 3 * 0
        decide
    · rintro m σ H' ⟨v4, v5, seen, wait, rfl, hs, hS, hWt, wk, rfl⟩
      have slt : ∀ x ∈ seen, x ∈ B := fun x hx => (wk.sr x hx).inB G hs0
      have hsl : seen.length ≤ B.length := List.Nodup.length_le_of_subset wk.nd slt
      have hB16 := G.few
      refine ⟨_, rfl, wa, _, rfl, .inl (SqL.of hWt), _, _, rfl, rfl, _, rfl, ?_⟩
      refine ite_by (c' := decide (0 < wait.length)) (by rw [List.length_map]; by_cases z : 0 < wait.length <;> simp [z]) (fun hz => ?_) (fun hz => ?_)
      · obtain ⟨wt, y, rfl⟩ := snoc_of (of_decide_eq_true hz)
        refine ⟨fun σ' H2 => ∃ m', m' < (wt ++ [y]).length + 4 * (B.length - seen.length) ∧ ∃ (v4 v5 : Option V) (seen wait : List Nat), σ' = [some (.ref wd), some (iV s0), some (.ref sa), some (.ref wa), v4, v5] ∧ Same H H2 ∧ H2 sa = some (.dK (dS seen)) ∧ H2 wa = some (.lst (wait.map iV)) ∧ Walked (nxW here) s0 seen wait ∧
          m' = wait.length + 4 * (B.length - seen.length), fun σ' H2 q => q, ?_⟩
        have hlast : ((wt ++ [y]).map iV)[((wt ++ [y]).map iV).length - 1]? = some (iV y) := by
          rw [List.map_append, List.length_append]
          simp
        have hdl : ((wt ++ [y]).map iV).dropLast = wt.map iV := by
          rw [List.map_append]
          exact List.dropLast_concat
        refine ⟨_, rfl, .inl ⟨rfl, _, SqL.of hWt⟩, wa, _, _, rfl, rfl, hWt, hlast, ?_⟩
        rw [hdl]
        have hs1 : Same H (upd H' wa (.lst (wt.map iV))) := same_into hs hwa0
        have hS1 : upd H' wa (.lst (wt.map iV)) sa = some (.dK (dS seen)) := by rw [upd_ne hsw]; exact hS
        have hW1 : upd H' wa (.lst (wt.map iV)) wa = some (.lst (wt.map iV)) := upd_same
        generalize upd H' wa (.lst (wt.map iV)) = H1 at hs1 hS1 hW1 ⊢
        refine ⟨_, rfl, _, rfl, sa, _, rfl, DGet.k (k := Sum.inl (y : Int)) hS1, _, rfl, ?_⟩
        have hmlen : (wt ++ [y]).length = wt.length + 1 := by rw [List.length_append]; rfl
        by_cases hy : y ∈ seen
        · refine ite_by (c' := false) (by rw [dS_val, if_pos hy]; rfl) (fun z => nomatch z) (fun _ => ?_)
          exact ⟨wt.length + 4 * (B.length - seen.length), by omega, _, _, seen, wt, rfl, hs1, hS1, hW1, wk.known hy, rfl⟩
        · refine ite_by (c' := true) (by rw [dS_val, if_neg hy]; rfl) (fun _ => ?_) (fun z => nomatch z)
          have hyB : y ∈ B := (wk.wr y (List.mem_append_right _ (List.mem_singleton.mpr rfl))).inB G hs0
          have hsl2 : (seen ++ [y]).length ≤ B.length := List.Nodup.length_le_of_subset (nd_snoc wk.nd hy) fun x hx => by
            rcases List.mem_append.mp hx with q | q
            · exact slt x q
            · rw [List.mem_singleton.mp q]; exact hyB
          have hsl3 : (seen ++ [y]).length = seen.length + 1 := by rw [List.length_append]; rfl
          refine ⟨_, rfl, _, rfl, sa, _, rfl, DPut.k (k := Sum.inl (y : Int)) hS1 (by rw [dS_len]; exact small1000 (by omega)), ?_⟩
          rw [dS_put hy]
          have hs2 : Same H (upd H1 sa (.dK (dS (seen ++ [y])))) := same_into hs1 hsa
          have hS2 : upd H1 sa (.dK (dS (seen ++ [y]))) sa = some (.dK (dS (seen ++ [y]))) := upd_same
          have hW2 : upd H1 sa (.dK (dS (seen ++ [y]))) wa = some (.lst (wt.map iV)) := by rw [upd_ne hsw.symm]; exact hW1
          generalize upd H1 sa (.dK (dS (seen ++ [y]))) = H2 at hs2 hS2 hW2 ⊢
          have wk2 := wk.new hy (h3 y hyB)
          have hwt : wt.length ≤ 1 + 3 * seen.length := by have := wk.few; omega
          -- for states in ways[state].values()
          obtain ⟨hne, pp, q1, q2⟩ := w2 y hyB
          have q1' := hs2 _ _ q1
          refine ⟨p y, _, q1', trivial, fun od => ?_⟩
          have hpw : p y ≠ wa := fun z => by rw [z, hwa0] at q1; cases q1
          have hps : p y ≠ sa := fun z => by rw [z, hsa] at q1; cases q1
          have hal : upd H2 (p y) (.frz od (.dK (dR pp ((here y).map (·.1))))) (p y) = some (.frz od (.dK (dR pp ((here y).map (·.1))))) := upd_same
          have hwdL := rd_lock (od := od) q1' trivial (Rd.of (hs2 _ _ w1))
          have hWL : upd H2 (p y) (.frz od (.dK (dR pp ((here y).map (·.1))))) wa = some (.lst (wt.map iV)) := by rw [upd_ne hpw.symm]; exact hW2
          have hSL : upd H2 (p y) (.frz od (.dK (dR pp ((here y).map (·.1))))) sa = some (.dK (dS (seen ++ [y]))) := by rw [upd_ne hps.symm]; exact hS2
          have hHL : ∀ b o, H b = some o → b ≠ p y → upd H2 (p y) (.frz od (.dK (dR pp ((here y).map (·.1))))) b = some o := fun b o e hb => by
            rw [upd_ne hb]
            exact hs2 _ _ e
          generalize upd H2 (p y) (.frz od (.dK (dR pp ((here y).map (·.1))))) = HL at hal hwdL hWL hSL hHL ⊢
          refine ⟨_, rfl, _, rfl, wd, _, rfl, dget_ref hwdL hyB, p y, od, _, rfl, hal, for_it walk_values (fun i σ H' => ∃ v5 : Option V, σ = [some (.ref wd), some (iV s0), some (.ref sa), some (.ref wa), some (iV y), v5] ∧ (∀ b o, HL b = some o → b ≠ wa → H' b = some o) ∧ H' wa = some (.lst ((wt ++ ((here y).take i).flatMap (·.2)).map iV))) ?_ ?_ ?_ ?_⟩
          · refine ⟨_, rfl, fun b o e _ => e, ?_⟩
            rw [List.take_zero, List.flatMap_nil, List.append_nil]
            exact hWL
          · rintro i σ H' hi ⟨_, rfl, ka, _⟩
            exact ka _ _ hal hpw
          · rintro i x σ H4 H' hi ⟨_, rfl, ka, hWi⟩ ⟨rfl, kk, hkv⟩
            rw [dR_len, List.length_map] at hi
            obtain ⟨x', hx⟩ := get_some hi
            have e := dR_get (p := pp) (ks := (here y).map (·.1)) (i := i) (k := x'.1) (by rw [List.getElem?_map, hx]; rfl)
            rw [e] at hkv
            cases hkv
            have hxm := List.mem_of_getElem? hx
            have hls := q2 _ hxm
            have hlw : pp x'.1 ≠ wa := fun z => by rw [z, hwa0] at hls; cases hls
            have hl1 := ka _ _ (hHL _ _ hls (lst_ne hls q1)) hlw
            have hft := flat_take (w := here y) i
            have h3y : ((here y).flatMap (·.2)).length ≤ 3 := h3 y hyB
            have h3x := G.most y hyB x' hxm
            refine ⟨_, rfl, .inl ⟨rfl, _, SqL.of hWi⟩, _, rfl, wa, pp x'.1, _, _, rfl, rfl, hWi, hl1, ?_, _, rfl, fun b o e hb => ?_, ?_⟩
            · rw [List.length_map, List.length_map, List.length_append]
              exact Nat.le_of_lt (small1000 (by omega))
            · rw [upd_ne hb]
              exact ka b o e hb
            · rw [upd_same, take_more hx, List.flatMap_append, List.flatMap_cons, List.flatMap_nil, List.append_nil, ← List.append_assoc, List.map_append (l₂ := x'.2)]
          · rintro σ H' ⟨_, rfl, ka, hWi⟩
            rw [dR_len, List.length_map, List.take_length] at hWi
            refine ⟨ka _ _ hal hpw, (wt ++ nxW here y).length + 4 * (B.length - (seen ++ [y]).length), ?_, _, _, seen ++ [y], wt ++ nxW here y, rfl, fun b o e => ?_, ?_, ?_, wk2, rfl⟩
            · rw [List.length_append]
              have := h3 y hyB
              omega
            · by_cases hb : b = p y
              · rw [hb, upd_same, ← q1, ← hb]
                exact e
              · rw [upd_ne hb]
                exact ka b o (hHL b o e hb) fun z => by rw [z, hwa0] at e; cases e
            · rw [upd_ne hps.symm]
              exact ka _ _ hSL hsw
            · rw [upd_ne hpw.symm]
              exact hWi
      · have hw0 : wait = [] := List.length_eq_zero_iff.mp (by have := of_decide_eq_false hz; omega)
        subst hw0
        refine ⟨_, rfl, sa, _, _, rfl, .inl hS, dS_keys seen, (by rw [List.length_map]; omega), fun ys p hp hsrt hn => ?_⟩
        obtain ⟨zs, ez, hzp, hzs⟩ := ints_nat hp hsrt
        rw [ez]
        have hall : ∀ x, x ∈ seen ↔ Reach (nxW here) s0 x := fun x => ⟨wk.sr x, fun hx => by
          refine Reach.into (p := fun x => x ∈ seen) (wk.st.elim id fun z => absurd z List.not_mem_nil) (fun u hu v hv => ?_) hx
          exact (wk.cl u hu v hv).elim id fun z => absurd z List.not_mem_nil⟩
        have nz : zs.Nodup := hzp.nodup_iff.mpr wk.nd
        have hris : Rising zs := by
          have : zs.Pairwise fun a b => a ≤ b ∧ a ≠ b := List.pairwise_and_iff.mpr ⟨hzs, nz⟩
          exact this.imp fun {a b} h => by omega
        exact k _ p zs (hs.trans (same_new hn)) (hs.free hn) upd_same hris fun x => hzp.mem_iff.trans (hall x)
theorem scTold : FnScope ["ways", "rule", "start", "told", "state"] ["ways", "rule", "start"] (defScope sTold) := ⟨rfl, rfl, rfl, by decide +kernel, rfl, by decide +kernel, by decide +kernel⟩
theorem ok_told {f fC fB : Addr} {fd fdC fdB : FuncData} (F : Fun K "told_rule" "told_rule" sTold f fd) (C : Cal P w K mg base "come_to" 1 ["ways", "start"] spCome fC fdC) (Bw : Cal P w K mg base "ways_by" 1 ["ways", "rule"] spWaysBy fB fdB) :
    FnOk P w K mg base CX0 2 f fd ["ways", "rule", "start"] spTold := by
  refine F.ok scTold (fun vs H Q E h => ?_) (fun cdv A outer s H vs Q E hr h => ?_)
  · obtain ⟨wd, rd, B, here, rl, s0, rfl, _⟩ := h
    rfl
  · obtain ⟨wd, rd, B, here, rl, s0, rfl, hW, G, hd, hs0, k⟩ := h
    have hu := hu_of hr
    refine ⟨_, pss_cons (ps_set (i := 3) scTold.nd rfl (Or.inl rfl) (pe_lst pa_nil))
      (pss_cons (ps_for PassesOwn.never rfl (pi_list (pe_call C.ok hr rfl C.gl C.kp C.bd .nil pass0 (pa_cons (pe_call Bw.ok hr rfl Bw.gl Bw.kp Bw.bd .nil pass0 (pa_cons (pv 0) (pa_cons (pv 1) pa_nil))) (pa_cons (pv 2) pa_nil)))) (pg_name (i := 4) scTold.nd rfl (Or.inl rfl))
        (pss_one (ps_if (pt_cmp (pc_din hu (pv 4) (pv 1)))
          (pss_one (ps_expr (pe_bm PySem.F.plainAttrs_list PySem.F.slot_list_extend PySem.F.type_list_extend mt_extend (pv 3) (pa_cons (pe_lst (pa_cons (pv 4) (pa_cons (pe_dget hu (pv 1) (pv 4) (fun _ _ => rfl)) pa_nil))) pa_nil)))) pss_nil)))
      (pss_one (ps_ret (pv 3)))), ?_⟩
    refine ⟨Nat.zero_le _, fun ta hta => ?_⟩
    have n1 : Same H (upd H ta (.lst [])) := same_new hta
    have GR := good_ruled rl G
    refine ⟨_, rfl, _, rfl, wd, rd, B, here, rl, rfl, hW.same n1, G, n1 _ _ hd, fun H0 ra hsa hra hWa => ?_⟩
    refine ⟨_, rfl, ra, B, ruledH here rl, s0, rfl, hWa, GR, hs0, fun u hu' => nx_ruled3 rl G hu', fun H1 q l hsb hq hl hris hall => ?_⟩
    have hs1 := hsa.trans hsb
    have hs2 := n1.trans hs1
    have hta1 := hs1 _ _ upd_same
    have hqt : q ≠ ta := fun z => by
      have := hsa.free hq
      rw [z, upd_same] at this
      cases this
    have hll : l.length ≤ 16 := by
      have : l.length ≤ B.length := List.Nodup.length_le_of_subset (rising_nodup hris) fun x hx => ((hall x).mp hx).inB GR hs0
      have := G.few
      omega
    refine ⟨q, rfl, ⟨_, SqL.of hl⟩, for_list (K := K) (a := q) (xs := l.map iV) (fun i σ H' => ∃ v : Option V, σ = [some (.ref wd), some (.ref rd), some (iV s0), some (.ref ta), v] ∧ Same H H' ∧ H' q = some (.lst (l.map iV)) ∧ H' ta = some (.lst ((toldOf rl (l.take i)).map iV))) ?_ ?_ ?_ ?_⟩
    · exact ⟨none, rfl, hs2, hl, hta1⟩
    · rintro i σ H' _ ⟨v, rfl, _, hl', _⟩
      exact SqL.of hl'
    · rintro i x σ H' hx ⟨v, rfl, hs', hl', ht'⟩
      rw [List.getElem?_map] at hx
      cases e : l[i]? with
      | none => rw [e] at hx; cases hx
      | some u =>
        rw [e] at hx
        cases hx
        refine ⟨_, rfl, _, rfl, rd, _, rfl, DGet.k (k := Sum.inl (u : Int)) (hs' _ _ hd), _, rfl, ?_⟩
        have hmore := toldOf_more (rl := rl) e
        cases hlk : rl.lookup u with
        | none =>
          refine ite_by (c' := false) (by rw [dN_val, hlk]; rfl) (fun z => nomatch z) (fun _ => ?_)
          rw [hlk, List.append_nil] at hmore
          refine ⟨_, rfl, hs', hl', ?_⟩
          rw [hmore]
          exact ht'
        | some kk =>
          refine ite_by (c' := true) (by rw [dN_val, hlk]; rfl) (fun _ => ?_) (fun z => nomatch z)
          have hg : DGet H' rd (iV u) (some (iV kk)) := by
            have := DGet.k (k := Sum.inl (u : Int)) (hs' _ _ hd)
            rw [dN_val, hlk] at this
            exact this
          rw [hlk] at hmore
          refine ⟨_, rfl, .inl ⟨rfl, _, SqL.of ht'⟩, _, rfl, _, rfl, _, rfl, rd, _, rfl, hg, (by show 2 ≤ sizeLine; decide), fun p hp => ?_⟩
          have hpt : ta ≠ p := ne_of_none ht' hp
          refine ⟨ta, p, _, _, rfl, rfl, (by rw [upd_ne hpt]; exact ht'), upd_same, ?_, ?_⟩
          · have h1 := toldOf_len rl (l.take i)
            rw [List.length_take] at h1
            rw [List.length_map]
            show _ + 2 ≤ sizeLine
            exact Nat.le_of_lt (small1000 (by omega))
          · refine ⟨_, rfl, same_into (hs'.trans (same_new hp)) hta, ?_, ?_⟩
            · rw [upd_ne hqt, upd_ne (ne_of_none hl' hp)]
              exact hl'
            · rw [upd_same, hmore, List.map_append]
              rfl
    · rintro σ H' ⟨v, rfl, hs', hl', ht'⟩
      rw [List.length_map, List.take_length] at ht'
      exact ⟨_, rfl, k H' ta l hs' hta ht' hris hall hll⟩
end
end Sh
set_option Elab.async false
set_option maxRecDepth 100000
set_option maxHeartbeats 2000000
namespace Sh
open PySem PySem.Spec PyProof.Rows L2
def spStuck : Sp := fun vs H Q _ => ∃ (wd la : Addr) (B l : List Nat) (here : Nat → Here) (g : Nat), vs = [.ref wd, .ref la, iV g] ∧ WaysAt H wd B here ∧ H la = some (.lst (l.map iV)) ∧ (∀ u ∈ l, u ∈ B) ∧ Q (oV (l.find? (stuckP g here))) H
def spWithout : Sp := fun vs H Q _ => ∃ (d la : Addr) (l : List Nat) (kvs : List (Nat × Nat)), vs = [.ref d, .ref la] ∧ H d = some (.dK (dN kvs)) ∧ H la = some (.lst (l.map iV)) ∧ Q (oV (l.find? fun u => (kvs.lookup u).isNone)) H
def spJudged : Sp := fun vs H Q _ => ∃ (wd rd : Addr) (B : List Nat) (here : Nat → Here) (rl : List (Nat × Nat)) (g s0 : Nat), vs = [.ref wd, iV g, .ref rd, iV s0] ∧ WaysAt H wd B here ∧ GoodW B here ∧ H rd = some (.dK (dN rl)) ∧ s0 ∈ B ∧
  ∀ (H' : Hp) (q : Addr) (l : List Nat), Same H H' → H q = none → Rising l → (∀ x, x ∈ l ↔ Reach (nxW (ruledH here rl)) s0 x) → H' q = some (.lst ((verdict B (ruledH here rl) g l s0).map iV)) → Q (.ref q) H'
section
variable {P : Program} {w : World} {K : PySem.W.Frag} {mg : Str → Option Value} {base : Heap} {CA : Addr}
theorem scStuck : FnScope ["ruled", "states", "wanted", "state"] ["ruled", "states", "wanted"] (defScope sStuck) := ⟨rfl, rfl, rfl, by decide +kernel, rfl, by decide +kernel, by decide +kernel⟩
theorem ok_stuck {f fW : Addr} {fd fdW : FuncData} (F : Fun K "lowest_stuck" "lowest_stuck" sStuck f fd) (W : Cal P w K mg base "is_as_wanted" 1 ["state", "wanted"] spWanted fW fdW) (mL : mg "len" = none) : FnOk P w K mg base CX0 2 f fd ["ruled", "states", "wanted"] spStuck := by
  refine F.ok scStuck (fun vs H Q E h => ?_) (fun cdv A outer s H vs Q E hr h => ?_)
  · obtain ⟨wd, la, B, l, here, g, rfl, _⟩ := h
    rfl
  · obtain ⟨wd, la, B, l, here, g, rfl, ⟨p, w1, w2⟩, hl, hlB, k⟩ := h
    have hu := hu_of hr
    refine ⟨_, pss_cons (ps_for PassesOwn.never rfl (pi_list (pv 1)) (pg_name (i := 3) scStuck.nd rfl (Or.inl rfl))
      (pss_one (ps_if (PW.pt (pw_and (pt_not (pt_val (pe_call W.ok hr rfl W.gl W.kp W.bd .nil pass0 (pa_cons (pv 3) (pa_cons (pv 2) pa_nil)))))
        (pw_and1 (pt_cmpR op_eq (pe_callB call_lenD (by rfl) mL PySem.boot_len (pa_cons (pe_dget hu (pv 0) (pv 3) (fun _ _ => rfl)) pa_nil)) pe_int (nomark _)))))
        (pss_one (ps_ret (pv 3))) pss_nil)))
      (pss_one (ps_ret pe_non)), ?_⟩
    refine ⟨_, rfl, la, rfl, ⟨_, SqL.of hl⟩, for_list (K := K) (a := la) (xs := l.map iV) (fun i σ H' => ∃ v : Option V, σ = [some (.ref wd), some (.ref la), some (iV g), v] ∧ H = H' ∧ (l.take i).find? (stuckP g here) = none) ?_ ?_ ?_ ?_⟩
    · exact ⟨none, rfl, rfl, rfl⟩
    · rintro i σ H' hi ⟨v, rfl, rfl, _⟩
      exact SqL.of hl
    · rintro i x σ H' hx ⟨v, rfl, rfl, hn⟩
      rw [List.getElem?_map] at hx
      cases e : l[i]? with
      | none => rw [e] at hx; cases hx
      | some u =>
        rw [e] at hx
        cases hx
        have huB := hlB u (List.mem_of_getElem? e)
        obtain ⟨hne, pp, q1, q2⟩ := w2 u huB
        refine ⟨_, rfl, _, rfl, u, g, rfl, _, rfl, ?_⟩
        refine ite_by (c' := !doneW g u) rfl (fun hc => ?_) (fun hc => ?_)
        · refine ⟨_, rfl, _, rfl, wd, _, rfl, dget_ref (Rd.of w1) huB, p u, _, rfl, q1, rfl, _, rfl, ?_⟩
          refine ite_by (c' := decide ((here u).length = 0)) (by rw [dR_len, List.length_map]; exact iV_eq (b := 0)) (fun hz => ?_) (fun hz => ?_)
          · refine ⟨_, rfl, q_of k ?_⟩
            rw [find_here e hn (show stuckP g here u = true by unfold stuckP; rw [hc, hz]; rfl)]
            rfl
          · exact ⟨_, rfl, rfl, find_more e hn (show stuckP g here u = false by unfold stuckP; rw [hz, Bool.and_false])⟩
        · exact if_false_of rfl ⟨_, rfl, rfl, find_more e hn (show stuckP g here u = false by unfold stuckP; rw [hc, Bool.false_and])⟩
    · rintro σ H' ⟨v, rfl, rfl, hn⟩
      rw [List.length_map, List.take_length] at hn
      refine q_of k ?_
      rw [hn]
      rfl
theorem scWithout : FnScope ["levels", "states", "state"] ["levels", "states"] (defScope sWithout) := ⟨rfl, rfl, rfl, by decide +kernel, rfl, by decide +kernel, by decide +kernel⟩
theorem ok_without {f : Addr} {fd : FuncData} (F : Fun K "lowest_without" "lowest_without" sWithout f fd) : FnOk P w K mg base CX0 1 f fd ["levels", "states"] spWithout := by
  refine F.ok scWithout (fun vs H Q E h => ?_) (fun cdv A outer s H vs Q E hr h => ?_)
  · obtain ⟨d, la, l, kvs, rfl, _⟩ := h
    rfl
  · obtain ⟨d, la, l, kvs, rfl, hd, hl, k⟩ := h
    have hu := hu_of hr
    refine ⟨_, pss_cons (ps_for PassesOwn.never rfl (pi_list (pv 1)) (pg_name (i := 2) scWithout.nd rfl (Or.inl rfl))
      (pss_one (ps_if (pt_cmp (pc_dnotin hu (pv 2) (pv 0))) (pss_one (ps_ret (pv 2))) pss_nil)))
      (pss_one (ps_ret pe_non)), ?_⟩
    refine ⟨_, rfl, la, rfl, ⟨_, SqL.of hl⟩, for_list (K := K) (a := la) (xs := l.map iV) (fun i σ H' => ∃ v : Option V, σ = [some (.ref d), some (.ref la), v] ∧ H = H' ∧ (l.take i).find? (fun u => (kvs.lookup u).isNone) = none) ?_ ?_ ?_ ?_⟩
    · exact ⟨none, rfl, rfl, rfl⟩
    · rintro i σ H' hi ⟨v, rfl, rfl, _⟩
      exact SqL.of hl
    · rintro i x σ H' hx ⟨v, rfl, rfl, hn⟩
      rw [List.getElem?_map] at hx
      cases e : l[i]? with
      | none => rw [e] at hx; cases hx
      | some u =>
        rw [e] at hx
        cases hx
        refine ⟨_, rfl, _, rfl, d, _, rfl, dget_rd (Rd.of hd) u, _, rfl, ?_⟩
        refine ite_by (c' := (kvs.lookup u).isNone) (by cases kvs.lookup u <;> rfl) (fun hc => ?_) (fun hc => ?_)
        · refine ⟨_, rfl, q_of k ?_⟩
          rw [find_here e hn hc]
          rfl
        · exact ⟨_, rfl, rfl, find_more e hn hc⟩
    · rintro σ H' ⟨v, rfl, rfl, hn⟩
      rw [List.length_map, List.take_length] at hn
      refine q_of k ?_
      rw [hn]
      rfl
theorem scJudged : FnScope ["ways", "wanted", "rule", "start", "ruled", "states", "stuck", "lost", "steps"] ["ways", "wanted", "rule", "start"] (defScope sJudged) := ⟨rfl, rfl, rfl, by decide +kernel, rfl, by decide +kernel, by decide +kernel⟩
theorem ok_judged {f fB fC fS fN fL fx fy : Addr} {fd fdB fdC fdS fdN fdL fdx fdy : FuncData} (F : Fun K "judged" "judged" sJudged f fd) (Bw : Cal P w K mg base "ways_by" 1 ["ways", "rule"] spWaysBy fB fdB) (C : Cal P w K mg base "come_to" 1 ["ways", "start"] spCome fC fdC)
    (S : Cal P w K mg base "lowest_stuck" 2 ["ruled", "states", "wanted"] spStuck fS fdS) (N : Cal P w K mg base "lowest_without" 1 ["levels", "states"] spWithout fN fdN)
    (LA : Cal P w K mg base "levels_of" 5 ["ways", "wanted", "serves"] (spLevels true fx) fL fdL) (LY : Cal P w K mg base "levels_of" 5 ["ways", "wanted", "serves"] (spLevels false fy) fL fdL)
    (AX : Cal P w K mg base "all_up_to" 2 ["states", "levels", "top"] (spUp true) fx fdx) (AY : Cal P w K mg base "any_up_to" 2 ["states", "levels", "top"] (spUp false) fy fdy) :
    FnOk P w K mg base CX0 6 f fd ["ways", "wanted", "rule", "start"] spJudged := by
  refine F.ok scJudged (fun vs H Q E h => ?_) (fun cdv A outer s H vs Q E hr h => ?_)
  · obtain ⟨wd, rd, B, here, rl, g, s0, rfl, _⟩ := h
    rfl
  · obtain ⟨wd, rd, B, here, rl, g, s0, rfl, hW, G, hrd, hs0, k⟩ := h
    have hu := hu_of hr
    have hr1 : Room 1 _ := hr.mono (by decide)
    have hr2 : Room 2 _ := hr.mono (by decide)
    refine ⟨_, pss_cons (ps_set (i := 4) scJudged.nd rfl (Or.inl rfl) (pe_call Bw.ok hr1 rfl Bw.gl Bw.kp Bw.bd .nil pass0 (pa_cons (pv 0) (pa_cons (pv 2) pa_nil))))
      (pss_cons (ps_set (i := 5) scJudged.nd rfl (Or.inl rfl) (pe_call C.ok hr1 rfl C.gl C.kp C.bd .nil pass0 (pa_cons (pv 4) (pa_cons (pv 3) pa_nil))))
      (pss_cons (ps_set (i := 6) scJudged.nd rfl (Or.inl rfl) (pe_call S.ok hr2 rfl S.gl S.kp S.bd .nil pass0 (pa_cons (pv 4) (pa_cons (pv 5) (pa_cons (pv 1) pa_nil)))))
      (pss_cons (ps_if (pt_cmpR op_notN (pv 6) pe_non (nomark _)) (pss_one (ps_ret (pe_lst (pa_cons pe_int (pa_cons (pv 6) pa_nil))))) pss_nil)
      (pss_cons (ps_set (i := 7) scJudged.nd rfl (Or.inl rfl) (pe_call N.ok hr1 rfl N.gl N.kp N.bd .nil pass0 (pa_cons (pe_call LY.ok hr rfl LY.gl LY.kp LY.bd .nil pass0 (pa_cons (pv 4) (pa_cons (pv 1) (pa_cons (pe_glob rfl AY.gl (v := .ref fy) rfl) pa_nil)))) (pa_cons (pv 5) pa_nil))))
      (pss_cons (ps_if (pt_cmpR op_notN (pv 7) pe_non (nomark _)) (pss_one (ps_ret (pe_lst (pa_cons pe_int (pa_cons (pv 7) pa_nil))))) pss_nil)
      (pss_cons (ps_set (i := 8) scJudged.nd rfl (Or.inl rfl) (pe_call LA.ok hr rfl LA.gl LA.kp LA.bd .nil pass0 (pa_cons (pv 4) (pa_cons (pv 1) (pa_cons (pe_glob rfl AX.gl (v := .ref fx) rfl) pa_nil)))))
      (pss_cons (ps_if (pt_cmp (pc_din hu (pv 3) (pv 8))) (pss_one (ps_ret (pe_lst (pa_cons pe_int (pa_cons (pe_dget hu (pv 8) (pv 3) (fun _ _ => rfl)) pa_nil))))) pss_nil)
      (pss_one (ps_ret (pe_lst (pa_cons pe_int pa_nil))))))))))), ?_⟩
    have GR := good_ruled rl G
    refine ⟨_, rfl, _, rfl, wd, rd, B, here, rl, rfl, hW, G, hrd, fun H1 ra hs1 hra hWa => ?_⟩
    refine ⟨_, rfl, _, rfl, ra, B, ruledH here rl, s0, rfl, hWa, GR, hs0, fun u hu' => nx_ruled3 rl G hu', fun H2 la l hs2 hla hl hris hall => ?_⟩
    have hs12 := hs1.trans hs2
    have hWa2 := hWa.same hs2
    refine ⟨_, rfl, _, rfl, _, rfl, ra, la, B, l, ruledH here rl, g, rfl, hWa2, hl, fun u hu' => ((hall u).mp hu').inB GR hs0, ?_⟩
    have two : ∀ {H' : Hp} {a b : Nat}, Same H H' → verdict B (ruledH here rl) g l s0 = [a, b] → ∀ q, H' q = none → Q (.ref q) (upd H' q (.lst [V.int (a : Int), iV b])) := fun {H' a b} hs e q hq =>
      k _ q l (hs.trans (same_new hq)) (hs.free hq) hris hall (by rw [upd_same, e]; rfl)
    refine ⟨_, rfl, rfl, _, rfl, ?_⟩
    cases hst : l.find? (stuckP g (ruledH here rl)) with
    | some u =>
      refine ite_by (c' := true) rfl (fun _ => ?_) (fun z => nomatch z)
      exact ⟨_, rfl, (by show 2 ≤ sizeLine; decide), two (a := 3) hs12 (by unfold verdict; rw [hst])⟩
    | none =>
      refine ite_by (c' := false) rfl (fun z => nomatch z) (fun _ => ?_)
      refine ⟨_, rfl, _, rfl, ra, B, ruledH here rl, g, rfl, hWa2, GR, fun H3 d hs3 hd0 hd => ?_⟩
      have hs13 := hs12.trans hs3
      refine ⟨_, rfl, d, la, l, _, rfl, hd, hs3 _ _ hl, ?_⟩
      refine ⟨_, rfl, rfl, _, rfl, ?_⟩
      cases hlo : l.find? (fun u => ((prs (lvW false B (ruledH here rl) g)).lookup u).isNone) with
      | some u =>
        refine ite_by (c' := true) rfl (fun _ => ?_) (fun z => nomatch z)
        exact ⟨_, rfl, (by show 2 ≤ sizeLine; decide), two (a := 0) hs13 (by unfold verdict; rw [hst, hlo])⟩
      | none =>
        refine ite_by (c' := false) rfl (fun z => nomatch z) (fun _ => ?_)
        refine ⟨_, rfl, _, rfl, ra, B, ruledH here rl, g, rfl, hWa2.same hs3, GR, fun H4 d2 hs4 hd20 hd2 => ?_⟩
        have hs14 := hs13.trans hs4
        have hg := dget_rd (Rd.of hd2) s0
        rw [prs_lookup] at hg
        refine ⟨_, rfl, _, rfl, d2, _, rfl, hg, _, rfl, ?_⟩
        cases hlv : Pn07.level (lvW true B (ruledH here rl) g) s0 with
        | some n =>
          rw [hlv] at hg
          refine ite_by (c' := true) rfl (fun _ => ?_) (fun z => nomatch z)
          exact ⟨_, rfl, _, rfl, d2, _, rfl, hg, (by show 2 ≤ sizeLine; decide), two (a := 2) hs14 (by unfold verdict; rw [hst]; simp only; rw [hlo]; simp only; rw [hlv])⟩
        | none =>
          refine ite_by (c' := false) rfl (fun z => nomatch z) (fun _ => ?_)
          refine ⟨(by show 1 ≤ sizeLine; decide), fun q hq => k _ q l (hs14.trans (same_new hq)) (hs14.free hq) hris hall ?_⟩
          have e : verdict B (ruledH here rl) g l s0 = [1] := by unfold verdict; rw [hst]; simp only; rw [hlo]; simp only; rw [hlv]
          rw [upd_same, e]
          rfl
end
end Sh
set_option Elab.async false
set_option maxRecDepth 100000
set_option maxHeartbeats 2000000
namespace Sh
open PySem PySem.Spec PyProof.Rows L2
def spFacts : Sp := fun vs H Q _ => ∃ x n : Nat, vs = [iV x, iV n] ∧ Q (.bl (decide (x < 2 ^ n))) H
def spPaired (K : PySem.W.Frag) : Sp := fun vs H Q _ => ∃ (a : Addr) (row : List Nat) (o : List (Nat × Nat)), vs = [.ref a] ∧ SqL K H a (row.map iV) ∧ Pn07.pairs row = some o ∧ o.length ≤ 1000 ∧
  ∀ (H' : Hp) (q : Addr) (ts : List Addr), Same H H' → H q = none → H' q = some (.lst (ts.map V.ref)) → (∀ t ∈ ts, H t = none) → Paired (OutAt H') ts o → Q (.ref q) H'
theorem pairs_len : ∀ {row : List Nat} {o : List (Nat × Nat)}, Pn07.pairs row = some o → row.length = 2 * o.length
  | [], o, h => by
    cases h
    rfl
  | [_], o, h => by cases h
  | a :: b :: r, o, h => by
    unfold Pn07.pairs at h
    cases e : Pn07.pairs r with
    | none => rw [e] at h; cases h
    | some m =>
      rw [e] at h
      cases h
      have := pairs_len e
      simp only [List.length_cons]
      omega
theorem pairs_get : ∀ {row : List Nat} {o : List (Nat × Nat)}, Pn07.pairs row = some o → ∀ {i : Nat} {x : Nat × Nat}, o[i]? = some x → row[2 * i]? = some x.1 ∧ row[2 * i + 1]? = some x.2
  | [], o, h, i, x, q => by
    cases h
    simp at q
  | [_], o, h, _, _, _ => by cases h
  | a :: b :: r, o, h, i, x, q => by
    unfold Pn07.pairs at h
    cases e : Pn07.pairs r with
    | none => rw [e] at h; cases h
    | some m =>
      rw [e] at h
      cases h
      cases i with
      | zero =>
        cases q
        exact ⟨rfl, rfl⟩
      | succ i =>
        rw [List.getElem?_cons_succ] at q
        obtain ⟨h1, h2⟩ := pairs_get e q
        have e1 : 2 * (i + 1) = (2 * i) + 1 + 1 := by omega
        rw [e1, List.getElem?_cons_succ, List.getElem?_cons_succ, List.getElem?_cons_succ, List.getElem?_cons_succ]
        exact ⟨h1, h2⟩
def spLvR (m : Bool) (fs : Addr) : Sp := fun vs H Q _ => ∃ (wd : Addr) (B : List Nat) (here : Nat → Here) (g s : Nat), vs = [.ref wd, iV g, .ref fs, iV s] ∧ WaysAt H wd B here ∧ GoodW B here ∧
  (Pn07.level (lvW m B here g) s = none → ∀ (H' : Hp) (q : Addr), Same H H' → H q = none → H' q = some (.lst [V.int (-6)]) → Q (.ref q) H') ∧
  ∀ n, Pn07.level (lvW m B here g) s = some n → ∀ (H' : Hp) (q : Addr) (rl : List (Nat × Nat)) (l : List Nat), Same H H' → H q = none → (∀ u, rl.lookup u = ruleW m here (prs (lvW m B here g)) u) → Rising l → (∀ x, x ∈ l ↔ Reach (nxW (ruledH here rl)) s x) →
    H' q = some (.lst ((n :: toldOf rl l).map iV)) → Q (.ref q) H'
section
variable {P : Program} {w : World} {K : PySem.W.Frag} {mg : Str → Option Value} {base : Heap} {CA : Addr}
theorem scFacts : FnScope ["some", "facts"] ["some", "facts"] (defScope sFacts) := ⟨rfl, rfl, rfl, by decide +kernel, rfl, by decide +kernel, by decide +kernel⟩
theorem ok_facts {f : Addr} {fd : FuncData} (F : Fun K "are_facts" "are_facts" sFacts f fd) : FnOk P w K mg base CX0 1 f fd ["some", "facts"] spFacts := by
  refine F.ok scFacts (fun vs H Q E h => ?_) (fun cdv A outer s H vs Q E hr h => ?_)
  · obtain ⟨x, n, rfl, _⟩ := h
    rfl
  · obtain ⟨x, n, rfl, k⟩ := h
    refine ⟨_, pss_one (ps_ret (pe_cmpR op_le (pe_bits (pv 0)) (pv 1) (nomark _))), ?_⟩
    refine ⟨_, rfl, _, rfl, _, rfl, _, _, rfl, rfl, q_bl k ?_⟩
    have h := bits_le x n
    by_cases z : x < 2 ^ n
    · rw [decide_eq_true z]
      have := h.mpr z
      exact decide_eq_true (by omega)
    · rw [decide_eq_false z]
      have : ¬ Builtin.Int.intBits (x : Int) ≤ n := fun q => z (h.mp q)
      exact decide_eq_false (by omega)
theorem scPaired : FnScope ["row", "at"] ["row"] (defScope sPaired) := ⟨rfl, rfl, rfl, by decide +kernel, rfl, by decide +kernel, by decide +kernel⟩
theorem rgc2 (m : Nat) (h : m ≤ 1000) : RgC 0 ((2 * m : Nat) : Int) 2 m := by
  have e : Builtin.Range.rangeSize 0 ((2 * m : Nat) : Int) 2 = (m : Int) := by
    unfold Builtin.Range.rangeSize
    rw [if_pos (by decide)]
    split <;> omega
  have fit : ∀ i : Int, 0 ≤ i → i ≤ 100000 → Builtin.Range.rangeFitsLong i = true := fun i h1 h2 => by
    unfold Builtin.Range.rangeFitsLong
    rw [Bool.and_eq_true]
    exact ⟨decide_eq_true (by omega), decide_eq_true (by omega)⟩
  refine ⟨by decide, by decide, ?_, e⟩
  unfold Builtin.Range.small
  rw [e, fit 0 (by decide) (by decide), fit _ (by omega) (by omega), fit 2 (by decide) (by decide), fit (m : Int) (by omega) (by omega), if_pos (by decide), fit _ (by omega) (by omega), Bool.or_true]
  rfl
theorem ok_paired {f : Addr} {fd : FuncData} (F : Fun K "paired" "paired" sPaired f fd) (mR : mg "range" = none) (mL : mg "len" = none) : FnOk P w K mg base CX0 1 f fd ["row"] (spPaired K) := by
  refine F.ok scPaired (fun vs H Q E h => ?_) (fun cdv A outer s H vs Q E hr h => ?_)
  · obtain ⟨a, row, o, rfl, _⟩ := h
    rfl
  · obtain ⟨a, row, o, rfl, hS, ho, hlen, k⟩ := h
    have hl2 := pairs_len ho
    refine ⟨_, pss_one (ps_ret (pe_lc (own := [("at", 1)]) (g := gName 1) (tt := tYes) (te := tTup (tCons (tOp (rIxL K) (tVar 0) (tVar 1)) (tCons (tOp (rIxL K) (tVar 0) (tOp (rI0 fun i j => .int (i + j)) (tVar 1) (tC (.int 1)))) tNil))) rfl scPaired.nd
      (pi_range3 rfl mR (pa_cons pe_int (pa_cons (pe_callB call_len_seq (by rfl) mL PySem.boot_len (pa_cons (pv 0) pa_nil)) (pa_cons pe_int pa_nil))))
      (blkOk_by (N := ["row", "at"]) (sc := defScope sPaired) (by decide +kernel))
      (fun _ _ _ _ _ => pg_name (i := 1) scPaired.nd rfl (Or.inl rfl))
      (fun _ _ _ _ _ => pts_nil)
      (fun _ _ _ _ _ => pe_tup (pa_cons (pe_ix ix_list (pv 0) (pv 1) (fun _ _ => rfl)) (pa_cons (pe_ix ix_list (pv 0) (pe_op op_add (pv 1) pe_int) (fun _ _ => rfl)) pa_nil))))), ?_⟩
    refine ⟨_, rfl, a, _, rfl, .inl hS, 0, _, 2, o.length, rfl, (by rw [List.length_map, hl2]; exact rgc2 _ hlen), fun D hD => ?_⟩
    refine lc_it (walk_rangeC (lo := 0) (c := 2) (n := o.length)) (fun i H' => ∃ ts : List Addr, Same H H' ∧ H' D = some (.lst (ts.map V.ref)) ∧ (∀ t ∈ ts, H t = none) ∧ Paired (OutAt H') ts (o.take i)) ?_ ?_ ?_ ?_
    · exact ⟨[], same_new hD, upd_same, fun t ht => absurd ht List.not_mem_nil, .nil⟩
    · intros
      trivial
    · rintro i x H1 H' hi ⟨ts, hs, hl, hn, hp⟩ ⟨rfl, rfl⟩
      obtain ⟨x, hx⟩ : ∃ x, o[i]? = some x := ⟨o[i], List.getElem?_eq_getElem hi⟩
      obtain ⟨g1, g2⟩ := pairs_get ho hx
      have e1 : (0 : Int) + ((i : Nat) : Int) * 2 = ((2 * i : Nat) : Int) := by omega
      have e2 : ((2 * i : Nat) : Int) + 1 = ((2 * i + 1 : Nat) : Int) := by omega
      show gName 1 (V.int ((0 : Int) + ((i : Nat) : Int) * 2)) _ _ _
      rw [e1]
      have hS1 := hs.seq hS
      refine ⟨rfl, _, rfl, _, rfl, a, _, _, _, rfl, rfl, hS1, atI_nat (by rw [List.getElem?_map, g1]; rfl), _, rfl, _, rfl, _, _, rfl, rfl, a, _, _, iV x.2, rfl, rfl, hS1, at_of e2 (by rw [List.getElem?_map, g2]; rfl), ?_, fun p hp' => ?_⟩
      · show 2 ≤ sizeLine
        decide
      · have hDp : D ≠ p := ne_of_none hl hp'
        have s3 : Same H' (upd H' p (.tup [iV x.1, iV x.2])) := same_new hp'
        have htl : ts.length ≤ 1000 := by
          rw [paired_len hp, List.length_take]
          omega
        refine ⟨ts.map V.ref, (by rw [upd_ne hDp]; exact hl), (by rw [List.length_map]; exact small1000 htl), ts ++ [p], same_into (hs.trans s3) hD, ?_, ?_, ?_⟩
        · rw [upd_same, List.map_append]
          rfl
        · intro t ht
          rcases List.mem_append.mp ht with q | q
          · exact hn t q
          · rw [List.mem_singleton.mp q]
            exact hs.free hp'
        · rw [take_more hx]
          have keepD : ∀ t y, OutAt H' t y → OutAt (upd (upd H' p (.tup [iV x.1, iV x.2])) D (.lst (ts.map V.ref ++ [V.ref p]))) t y := fun t y q => by
            have : t ≠ D := ne_of q hl (by intro z; cases z)
            show upd (upd H' p _) D _ t = _
            rw [upd_ne this]
            exact s3 _ _ q
          refine Paired.snoc (paired_imp hp fun t y _ q => keepD t y q) ?_
          show upd (upd H' p _) D _ p = _
          rw [upd_ne hDp.symm, upd_same]
    · rintro H' ⟨ts, hs, hl, hn, hp⟩
      rw [List.take_length] at hp
      exact k H' D ts hs hD hl hn hp
theorem one_le : 1 ≤ sizeLine := by decide
theorem scLvR : FnScope ["ways", "wanted", "serves", "state", "levels"] ["ways", "wanted", "serves", "state"] (defScope sLvR) := ⟨rfl, rfl, rfl, by decide +kernel, rfl, by decide +kernel, by decide +kernel⟩
theorem ok_lvr {m : Bool} {fs f fL fR fT : Addr} {fd fdL fdR fdT : FuncData} (F : Fun K "level_and_rule" "level_and_rule" sLvR f fd) (L : Cal P w K mg base "levels_of" 5 ["ways", "wanted", "serves"] (spLevels m fs) fL fdL) (R : Cal P w K mg base "rule_of" 4 ["ways", "levels", "serves"] (spRule m fs) fR fdR)
    (D : Cal P w K mg base "told_rule" 2 ["ways", "rule", "start"] spTold fT fdT) : FnOk P w K mg base CX0 6 f fd ["ways", "wanted", "serves", "state"] (spLvR m fs) := by
  refine F.ok scLvR (fun vs H Q E h => ?_) (fun cdv A outer s H vs Q E hr h => ?_)
  · obtain ⟨wd, B, here, g, s, rfl, _⟩ := h
    rfl
  · obtain ⟨wd, B, here, g, s, rfl, hW, G, k0, k1⟩ := h
    have hu := hu_of hr
    have hr2 : Room 2 _ := hr.mono (by decide)
    have hr4 : Room 4 _ := hr.mono (by decide)
    refine ⟨_, pss_cons (ps_set (i := 4) scLvR.nd rfl (Or.inl rfl) (pe_call L.ok hr rfl L.gl L.kp L.bd .nil pass0 (pa_cons (pv 0) (pa_cons (pv 1) (pa_cons (pv 2) pa_nil)))))
      (pss_cons (ps_if (pt_cmp (pc_dnotin hu (pv 3) (pv 4))) (pss_one (ps_ret (pe_lst (pa_cons (pe_un un_neg pe_int) pa_nil)))) pss_nil)
      (pss_one (ps_ret (pe_op op_cat (pe_lst (pa_cons (pe_dget hu (pv 4) (pv 3) (fun _ _ => rfl)) pa_nil)) (pe_call D.ok hr2 rfl D.gl D.kp D.bd .nil pass0 (pa_cons (pv 0) (pa_cons (pe_call R.ok hr4 rfl R.gl R.kp R.bd .nil pass0 (pa_cons (pv 0) (pa_cons (pv 4) (pa_cons (pv 2) pa_nil)))) (pa_cons (pv 3) pa_nil)))))))), ?_⟩
    refine ⟨_, rfl, _, rfl, _, rfl, wd, B, here, g, rfl, hW, G, fun H1 d hs1 hd0 hd => ?_⟩
    have hfl := lvW_flat (m := m) (here := here) (g := g) G.nd
    have hkeys : (prs (lvW m B here g)).map (·.1) = (lvW m B here g).flatten := prs_keys _ 0
    have hg := dget_rd (Rd.of hd) s
    rw [prs_lookup] at hg
    refine ⟨_, rfl, _, rfl, d, _, rfl, hg, _, rfl, ?_⟩
    cases hlv : Pn07.level (lvW m B here g) s with
    | none =>
      refine ite_by (c' := true) rfl (fun _ => ?_) (fun z => nomatch z)
      exact ⟨_, rfl, one_le, fun q hq => k0 hlv _ q (hs1.trans (same_new hq)) (hs1.free hq) upd_same⟩
    | some n =>
      refine ite_by (c' := false) rfl (fun z => nomatch z) (fun _ => ?_)
      rw [hlv] at hg
      refine ⟨_, rfl, _, rfl, d, _, rfl, hg, one_le, fun l1 hl1 => ?_⟩
      have n1 := same_new (o := .lst [iV n]) hl1
      have hl1' : upd H1 l1 (.lst [iV n]) l1 = some (.lst [iV n]) := upd_same
      have hs2 := hs1.trans n1
      have hd2 := n1 _ _ hd
      have hl10 := hs1.free hl1
      generalize upd H1 l1 (.lst [iV n]) = H2 at n1 hl1' hs2 hd2 ⊢
      refine ⟨_, rfl, _, rfl, _, rfl, _, rfl, wd, d, B, here, prs (lvW m B here g), H, rfl, hW, hs2, hd0, G, hd2, (by rw [hkeys]; exact hfl.nd), ?_, (by rw [hkeys]; exact hfl.sub), fun u j hj => rule_has (by rw [← prs_lookup]; exact hj), fun H3 r rl hs3 hr0 hrl hlk => ?_⟩
      · rw [prs_len]
        have := hfl.len
        have := G.few
        omega
      · have hs4 := hs2.trans hs3
        refine ⟨_, rfl, wd, r, B, here, rl, s, rfl, hW.same hs4, G, hrl, level_in G.nd hlv, fun H4 q l hs5 hq hl hris hall hll => ?_⟩
        have hs6 := hs4.trans hs5
        have hlen := toldOf_len rl l
        refine ⟨l1, q, _, _, rfl, rfl, hs5 _ _ (hs3 _ _ hl1'), hl, ?_, fun z hz => ?_⟩
        · rw [List.length_map]
          show 1 + _ ≤ sizeLine
          exact Nat.le_of_lt (small1000 (by omega))
        · exact k1 n hlv _ z rl l (hs6.trans (same_new hz)) (hs6.free hz) hlk hris hall upd_same
end
end Sh
set_option Elab.async false
set_option maxRecDepth 100000
set_option maxHeartbeats 2000000
namespace Sh
open PySem PySem.Spec PyProof.Rows L2
abbrev sHInit : Stmt := inClass (top 37) 0
abbrev sBegins : Stmt := inClass (top 37) 1
abbrev sAct : Stmt := inClass (top 37) 2
abbrev sGoal : Stmt := inClass (top 37) 3
abbrev sAllWays : Stmt := inClass (top 37) 4
abbrev sSure : Stmt := inClass (top 37) 5
abbrev sHope : Stmt := inClass (top 37) 6
abbrev sFrom : Stmt := inClass (top 37) 7
abbrev sJudge : Stmt := inClass (top 37) 8
/-! ### the house in the heap -/
def hF (t : Pn07.Task) (la : Addr) : List (Str × V) := [("facts", iV t.facts), ("wanted", iV t.goal), ("acts", .ref la)]
theorem hF_facts (t : Pn07.Task) (la : Addr) : (hF t la).lookup ("facts" : Str) = some (iV t.facts) := lk_here
theorem hF_wanted (t : Pn07.Task) (la : Addr) : (hF t la).lookup ("wanted" : Str) = some (iV t.goal) := (lk_past (by decide +kernel)).trans lk_here
theorem hF_acts (t : Pn07.Task) (la : Addr) : (hF t la).lookup ("acts" : Str) = some (.ref la) := (lk_past (by decide +kernel)).trans ((lk_past (by decide +kernel)).trans lk_here)
theorem hF_no (t : Pn07.Task) (la : Addr) {m : Str} (h1 : (m == ("facts" : Str)) = false) (h2 : (m == ("wanted" : Str)) = false) (h3 : (m == ("acts" : Str)) = false) : (hF t la).lookup m = none := (lk_past h1).trans ((lk_past h2).trans ((lk_past h3).trans rfl))
theorem hF_putF (t : Pn07.Task) (la : Addr) (n : Nat) : putF "facts" (iV n) (hF t la) = hF { t with facts := n } la := put_here
theorem hF_putW (t : Pn07.Task) (la : Addr) (g : Nat) : putF "wanted" (iV g) (hF t la) = hF { t with goal := g } la := (put_past (by decide +kernel)).trans (congrArg _ put_here)
theorem hF_putA (t : Pn07.Task) (la lb : Addr) : putF "acts" (.ref lb) (hF t la) = hF t lb := (put_past (by decide +kernel)).trans (congrArg _ ((put_past (by decide +kernel)).trans (congrArg _ put_here)))
theorem hF_new (la : Addr) : putF "acts" (.ref la) (putF "wanted" (.int 0) (putF "facts" (.int 1) [])) = hF Pn07.init.task la := by
  have e1 : putF "wanted" (.int 0) (putF "facts" (.int 1) []) = [(("facts" : Str), V.int 1), ("wanted", V.int 0)] := (put_past (by decide +kernel)).trans rfl
  rw [e1]
  exact (put_past (by decide +kernel)).trans (congrArg _ ((put_past (by decide +kernel)).trans rfl))
/-- a house stands at h, all that it is made of within S -/
def HouseAt (CA CH : Addr) (S : Addr → Prop) (H : Hp) (h : Addr) (t : Pn07.Task) : Prop := ∃ (dx la : Addr) (S0 : Addr → Prop), H h = some (.ins CH dx (hF t la)) ∧ S h ∧ S la ∧ (∀ b, S0 b → S b) ∧ ¬ S0 h ∧ ¬ S0 la ∧ ActsAt CA S0 H la t.acts
theorem HouseAt.keep {CA CH : Addr} {S : Addr → Prop} {H H' : Hp} {h : Addr} {t : Pn07.Task} (q : HouseAt CA CH S H h t) (k : ∀ b o, S b → H b = some o → H' b = some o) : HouseAt CA CH S H' h t := by
  obtain ⟨dx, la, S0, h1, s1, s2, s3, s4, s5, h2⟩ := q
  exact ⟨dx, la, S0, k _ _ s1 h1, s1, s2, s3, s4, s5, h2.keep (fun b o z e => k b o (s3 b z) e) (fun o e => k _ _ s2 e)⟩
/-- what a call promises of house and answer -/
def PostM (CA CH : Addr) (S : Addr → Prop) (H : Hp) (h : Addr) (t' : Pn07.Task) (a : List Int) (Q : VK) : Prop :=
  ∀ (H' : Hp) (S' : Addr → Prop) (q : Addr), HouseAt CA CH S' H' h t' → (∀ b, S' b → S b ∨ H b = none) → (∀ b o, H b = some o → ¬ S b → H' b = some o) → H q = none → H' q = some (.lst (a.map V.int)) → Q (.ref q) H'
def outI (a : Pn07.Ans) : List Int := a.v :: a.l.map fun (n : Nat) => (n : Int)
/-- a house that is only read -/
theorem PostM.read {CA CH : Addr} {S : Addr → Prop} {H H' : Hp} {h : Addr} {t : Pn07.Task} {a : List Int} {Q : VK} (k : PostM CA CH S H h t a Q) (hh : HouseAt CA CH S H h t) (hs : Same H H') {q : Addr} (hq : H q = none) (hl : H' q = some (.lst (a.map V.int))) : Q (.ref q) H' :=
  k H' S q (hh.keep fun b o _ e => hs b o e) (fun b z => .inl z) (fun b o e _ => hs b o e) hq hl
structure TxtH (K : PySem.W.Frag) (CH : Addr) : Prop where
  cl : Cls K CH
  nF : NoAttr K CH "facts"
  nW : NoAttr K CH "wanted"
  nA : NoAttr K CH "acts"
def spHInit (CH : Addr) : Sp := fun vs H Q _ => ∃ (p dx : Addr), vs = [.ref p] ∧ H p = some (.ins CH dx []) ∧
  ∀ (H' : Hp) (la : Addr), H la = none → H' p = some (.ins CH dx (hF Pn07.init.task la)) → H' la = some (.lst []) → (∀ b o, H b = some o → b ≠ p → H' b = some o) → Q .non H'
def spBegins (CA CH : Addr) : Sp := fun vs H Q _ => ∃ (h : Addr) (S : Addr → Prop) (t : Pn07.Task) (n g : Nat), vs = [.ref h, iV n, iV g] ∧ HouseAt CA CH S H h t ∧
  PostM CA CH S H h (Pn07.step ⟨t⟩ (.begins n g)).1.task (outI (Pn07.step ⟨t⟩ (.begins n g)).2) Q
def spGoal (CA CH : Addr) : Sp := fun vs H Q _ => ∃ (h : Addr) (S : Addr → Prop) (t : Pn07.Task) (g : Nat), vs = [.ref h, iV g] ∧ HouseAt CA CH S H h t ∧
  PostM CA CH S H h (Pn07.step ⟨t⟩ (.goal g)).1.task (outI (Pn07.step ⟨t⟩ (.goal g)).2) Q
section
variable {P : Program} {w : World} {K : PySem.W.Frag} {mg : Str → Option Value} {base : Heap} {CA CH : Addr}
theorem scHInit : FnScope ["self"] ["self"] (defScope sHInit) := ⟨rfl, rfl, rfl, by decide +kernel, rfl, by decide +kernel, by decide +kernel⟩
theorem ok_hinit {f : Addr} {fd : FuncData} (F : Fun K "__init__" "House.__init__" sHInit f fd) (T : TxtH K CH) : FnOk P w K mg base CX0 1 f fd ["self"] (spHInit CH) := by
  refine F.ok scHInit (fun vs H Q E h => ?_) (fun cdv A outer s H vs Q E hr h => ?_)
  · obtain ⟨p, dx, rfl, _⟩ := h
    rfl
  · obtain ⟨p, dx, rfl, hp, k⟩ := h
    refine ⟨_, pss_cons (ps_fld (pv 0) pe_int rfl) (pss_cons (ps_fld (pv 0) pe_int rfl) (pss_one (ps_fld (pv 0) (pe_lst pa_nil) rfl))), ?_⟩
    refine ⟨_, rfl, p, CH, dx, [], rfl, hp, T.cl, T.nF, (by show 0 < 1000; decide), ?_⟩
    refine ⟨_, rfl, p, CH, dx, _, rfl, upd_same, T.cl, T.nW, (by show 1 < 1000; decide), ?_⟩
    refine ⟨Nat.zero_le _, fun la hla => ?_⟩
    have hpl : p ≠ la := ne_of_none upd_same hla
    have hla0 : H la = none := by
      rw [upd_ne hpl.symm, upd_ne hpl.symm] at hla
      exact hla
    refine ⟨_, rfl, p, CH, dx, _, rfl, (by rw [upd_ne hpl, upd_same]), T.cl, T.nA, ?_, ?_⟩
    · have e1 : putF "wanted" (.int 0) (putF "facts" (.int 1) []) = [(("facts" : Str), V.int 1), ("wanted", V.int 0)] := (put_past (by decide +kernel)).trans rfl
      rw [e1]
      show 2 < 1000
      decide
    · refine k _ la hla0 (Eq.trans upd_same (congrArg (fun q => some (HO.ins CH dx q)) (hF_new la))) ?_ fun b o e hb => ?_
      · rw [upd_ne hpl.symm, upd_same]
      · rw [upd_ne hb, upd_ne (ne_of_none e hla0), upd_ne hb, upd_ne hb]
        exact e
theorem scBegins : FnScope ["self", "facts", "wanted"] ["self", "facts", "wanted"] (defScope sBegins) := ⟨rfl, rfl, rfl, by decide +kernel, rfl, by decide +kernel, by decide +kernel⟩
theorem begins_no {t : Pn07.Task} {n g : Nat} (h : n = 0 ∨ 4 < n ∨ 2 ^ n ≤ g) : Pn07.step ⟨t⟩ (.begins n g) = (⟨t⟩, Pn07.ok (-1)) := if_pos h
theorem begins_ok {t : Pn07.Task} {n g : Nat} (h : ¬ (n = 0 ∨ 4 < n ∨ 2 ^ n ≤ g)) : Pn07.step ⟨t⟩ (.begins n g) = (⟨⟨n, [], g⟩⟩, Pn07.ok 0) := if_neg h
theorem ok_begins {f fF : Addr} {fd fdF : FuncData} {t4 : Tok} (F : Fun K "begins" "House.begins" sBegins f fd) (T : TxtH K CH) (U : Cal P w K mg base "are_facts" 1 ["some", "facts"] spFacts fF fdF) (m4 : mg "MOST_FACTS" = some (.int 4 t4)) :
    FnOk P w K mg base CX0 2 f fd ["self", "facts", "wanted"] (spBegins CA CH) := by
  refine F.ok scBegins (fun vs H Q E h => ?_) (fun cdv A outer s H vs Q E hr h => ?_)
  · obtain ⟨h, S, t, n, g, rfl, _⟩ := h
    rfl
  · obtain ⟨h, S, t, n, g, rfl, hh, k⟩ := h
    refine ⟨_, pss_cons (ps_if (PW.pt (pw_or (pt_cmpR op_lt (pv 1) pe_int (nomark _)) (pw_or (pt_cmpR op_gt (pv 1) (pe_glob rfl m4 (v := .int 4) ⟨_, rfl⟩) (nomark _)) (pw_or1 (pt_not (pt_val (pe_call U.ok hr rfl U.gl U.kp U.bd .nil pass0 (pa_cons (pv 2) (pa_cons (pv 1) pa_nil)))))))))
        (pss_one (ps_ret (pe_lst (pa_cons (pe_un un_neg pe_int) pa_nil)))) pss_nil)
      (pss_cons (ps_fld (pv 0) (pv 1) rfl) (pss_cons (ps_fld (pv 0) (pv 2) rfl) (pss_cons (ps_fld (pv 0) (pe_lst pa_nil) rfl) (pss_one (ps_ret (pe_lst (pa_cons pe_int pa_nil)))))))
      , ?_⟩
    have no : (n = 0 ∨ 4 < n ∨ 2 ^ n ≤ g) → ∀ q, H q = none → Q (.ref q) (upd H q (.lst [V.int (-1)])) := fun hno q hq => by
      rw [begins_no hno] at k
      exact k.read hh (same_new hq) hq upd_same
    refine ⟨_, rfl, _, _, rfl, rfl, _, rfl, ?_⟩
    refine ite_by (c' := decide (n < 1)) (decide_eq_decide.mpr (by omega)) (fun h1 => ?_) (fun h1 => ?_)
    · exact ⟨_, rfl, (by show 1 ≤ sizeLine; decide), no (by have := of_decide_eq_true h1; omega)⟩
    · have h1 := of_decide_eq_false h1
      refine ⟨_, rfl, _, _, rfl, rfl, _, rfl, ?_⟩
      refine ite_by (c' := decide (4 < n)) (decide_eq_decide.mpr (by omega)) (fun h2 => ?_) (fun h2 => ?_)
      · exact ⟨_, rfl, (by show 1 ≤ sizeLine; decide), no (by have := of_decide_eq_true h2; omega)⟩
      · have h2 := of_decide_eq_false h2
        refine ⟨_, rfl, _, rfl, g, n, rfl, _, rfl, ?_⟩
        refine ite_by (c' := decide (2 ^ n ≤ g)) (by by_cases z : 2 ^ n ≤ g <;> simp [z] <;> omega) (fun h3 => ?_) (fun h3 => ?_)
        · exact ⟨_, rfl, (by show 1 ≤ sizeLine; decide), no (.inr (.inr (of_decide_eq_true h3)))⟩
        · have h3 := of_decide_eq_false h3
          rw [begins_ok (by omega)] at k
          obtain ⟨dx, la, S0, e1, s1, s2, s3, s4, s5, hA⟩ := hh
          refine ⟨_, rfl, _, rfl, h, CH, dx, _, rfl, e1, T.cl, T.nF, (by show 3 < 1000; decide), ?_⟩
          rw [hF_putF]
          refine ⟨_, rfl, _, rfl, h, CH, dx, _, rfl, upd_same, T.cl, T.nW, (by show 3 < 1000; decide), ?_⟩
          rw [hF_putW]
          refine ⟨Nat.zero_le _, fun lb hlb => ?_⟩
          have hhl : h ≠ lb := ne_of_none upd_same hlb
          have hlb0 : H lb = none := by
            rw [upd_ne hhl.symm, upd_ne hhl.symm] at hlb
            exact hlb
          refine ⟨_, rfl, h, CH, dx, _, rfl, (by rw [upd_ne hhl, upd_same]), T.cl, T.nA, (by show 3 < 1000; decide), ?_⟩
          rw [hF_putA]
          refine ⟨(by show 1 ≤ sizeLine; decide), fun q hq => ?_⟩
          have hqh : h ≠ q := ne_of_none upd_same hq
          have hq1 := hq
          rw [upd_ne hqh.symm] at hq1
          have hql : lb ≠ q := ne_of_none upd_same hq1
          rw [upd_ne hql.symm, upd_ne hqh.symm, upd_ne hqh.symm] at hq1
          refine k _ (fun b => b = h ∨ b = lb) q ⟨dx, lb, fun _ => False, ?_, .inl rfl, .inr rfl, fun b z => z.elim, id, id, [], ?_, .nil⟩ ?_ ?_ hq1 upd_same
          · rw [upd_ne hqh, upd_same]
            rfl
          · rw [upd_ne hql, upd_ne hhl.symm, upd_same]
            rfl
          · rintro b (z | z)
            · exact .inl (by rw [z]; exact s1)
            · exact .inr (by rw [z]; exact hlb0)
          · intro b o e hb
            have hbh : b ≠ h := fun z => hb (by rw [z]; exact s1)
            rw [upd_ne (ne_of_none e hq1), upd_ne hbh, upd_ne (ne_of_none e hlb0), upd_ne hbh, upd_ne hbh]
            exact e
theorem scGoal : FnScope ["self", "wanted"] ["self", "wanted"] (defScope sGoal) := ⟨rfl, rfl, rfl, by decide +kernel, rfl, by decide +kernel, by decide +kernel⟩
theorem goal_no {t : Pn07.Task} {g : Nat} (h : 2 ^ t.facts ≤ g) : Pn07.step ⟨t⟩ (.goal g) = (⟨t⟩, Pn07.ok (-1)) := if_pos h
theorem goal_ok {t : Pn07.Task} {g : Nat} (h : ¬ 2 ^ t.facts ≤ g) : Pn07.step ⟨t⟩ (.goal g) = (⟨{ t with goal := g }⟩, Pn07.ok 0) := if_neg h
theorem ok_goal {f fF : Addr} {fd fdF : FuncData} (F : Fun K "goal" "House.goal" sGoal f fd) (T : TxtH K CH) (U : Cal P w K mg base "are_facts" 1 ["some", "facts"] spFacts fF fdF) : FnOk P w K mg base CX0 2 f fd ["self", "wanted"] (spGoal CA CH) := by
  refine F.ok scGoal (fun vs H Q E h => ?_) (fun cdv A outer s H vs Q E hr h => ?_)
  · obtain ⟨h, S, t, g, rfl, _⟩ := h
    rfl
  · obtain ⟨h, S, t, g, rfl, hh, k⟩ := h
    refine ⟨_, pss_cons (ps_if (pt_not (pt_val (pe_call U.ok hr rfl U.gl U.kp U.bd .nil pass0 (pa_cons (pv 1) (pa_cons (pe_fld (pv 0) rfl) pa_nil))))) (pss_one (ps_ret (pe_lst (pa_cons (pe_un un_neg pe_int) pa_nil)))) pss_nil)
      (pss_cons (ps_fld (pv 0) (pv 1) rfl) (pss_one (ps_ret (pe_lst (pa_cons pe_int pa_nil))))), ?_⟩
    obtain ⟨dx, la, S0, e1, s1, s2, s3, s4, s5, hA⟩ := id hh
    refine ⟨_, rfl, _, rfl, h, CH, dx, _, _, rfl, e1, T.cl, T.nF, hF_facts _ _, g, t.facts, rfl, _, rfl, ?_⟩
    refine ite_by (c' := decide (2 ^ t.facts ≤ g)) (by by_cases z : 2 ^ t.facts ≤ g <;> simp [z] <;> omega) (fun h3 => ?_) (fun h3 => ?_)
    · rw [goal_no (of_decide_eq_true h3)] at k
      exact ⟨_, rfl, (by show 1 ≤ sizeLine; decide), fun q hq => k.read hh (same_new hq) hq upd_same⟩
    · rw [goal_ok (of_decide_eq_false h3)] at k
      refine ⟨_, rfl, _, rfl, h, CH, dx, _, rfl, e1, T.cl, T.nW, (by show 3 < 1000; decide), ?_⟩
      rw [hF_putW]
      refine ⟨(by show 1 ≤ sizeLine; decide), fun q hq => ?_⟩
      have hqh : h ≠ q := ne_of_none upd_same hq
      have hq1 := hq
      rw [upd_ne hqh.symm] at hq1
      have kp : ∀ b o, H b = some o → b ≠ h → upd (upd H h (.ins CH dx (hF { t with goal := g } la))) q (.lst [V.int 0]) b = some o := fun b o e hb => by
        rw [upd_ne (ne_of_none e hq1), upd_ne hb]
        exact e
      refine k _ S q ⟨dx, la, S0, ?_, s1, s2, s3, s4, s5, ?_⟩ (fun b z => .inl z) (fun b o e hb => kp b o e fun z => hb (by rw [z]; exact s1)) hq1 upd_same
      · rw [upd_ne hqh, upd_same]
      · refine hA.keep (fun b o z e => kp b o e fun y => s4 (by rw [← y]; exact z)) (fun o e => kp la o e fun y => ?_)
        rw [y] at e
        rw [e1] at e
        obtain ⟨ps, e2, _⟩ := hA
        rw [y, e1] at e2
        cases e2
end
end Sh
set_option Elab.async false
set_option maxRecDepth 100000
set_option maxHeartbeats 2000000
namespace Sh
open PySem PySem.Spec PyProof.Rows L2
theorem dec_int {i j : Int} : decide (V.int i = V.int j) = decide (i = j) := decide_eq_decide.mpr ⟨fun h => by injection h, fun h => by rw [h]⟩
theorem pairs_even : ∀ {row : List Nat}, row.length % 2 = 0 → ∃ o, Pn07.pairs row = some o
  | [], _ => ⟨[], rfl⟩
  | [_], h => by simp at h
  | a :: b :: r, h => by
    obtain ⟨o, e⟩ := pairs_even (row := r) (by simp only [List.length_cons] at h; omega)
    exact ⟨(a, b) :: o, by unfold Pn07.pairs; rw [e]; rfl⟩
theorem pairs_odd {row : List Nat} (h : row.length % 2 = 1) : Pn07.pairs row = none := by
  cases e : Pn07.pairs row with
  | none => rfl
  | some o =>
    have := pairs_len e
    omega
theorem pairs_all {N : Nat} : ∀ {row : List Nat} {o : List (Nat × Nat)}, Pn07.pairs row = some o → (∀ x ∈ row, x < N) → ∀ y ∈ o, y.1 < N ∧ y.2 < N
  | [], o, h, _ => by
    cases h
    intro y hy
    exact absurd hy List.not_mem_nil
  | [_], o, h, _ => by cases h
  | a :: b :: r, o, h, ha => by
    unfold Pn07.pairs at h
    cases e : Pn07.pairs r with
    | none => rw [e] at h; cases h
    | some m =>
      rw [e] at h
      cases h
      intro y hy
      rcases List.mem_cons.mp hy with z | z
      · subst z
        exact ⟨ha a (List.mem_cons_self ..), ha b (List.mem_cons_of_mem _ (List.mem_cons_self ..))⟩
      · exact pairs_all e (fun x hx => ha x (List.mem_cons_of_mem _ (List.mem_cons_of_mem _ hx))) y z
theorem pairs_some {N : Nat} : ∀ {row : List Nat} {o : List (Nat × Nat)}, Pn07.pairs row = some o → (∃ x ∈ row, N ≤ x) → ∃ y ∈ o, N ≤ y.1 ∨ N ≤ y.2
  | [], o, h, ⟨x, hx, _⟩ => absurd hx List.not_mem_nil
  | [_], o, h, _ => by cases h
  | a :: b :: r, o, h, ⟨x, hx, hN⟩ => by
    unfold Pn07.pairs at h
    cases e : Pn07.pairs r with
    | none => rw [e] at h; cases h
    | some m =>
      rw [e] at h
      cases h
      rcases List.mem_cons.mp hx with z | z
      · exact ⟨(a, b), List.mem_cons_self .., .inl (by rw [← z]; exact hN)⟩
      · rcases List.mem_cons.mp z with z | z
        · exact ⟨(a, b), List.mem_cons_self .., .inr (by rw [← z]; exact hN)⟩
        · obtain ⟨y, hy, q⟩ := pairs_some e ⟨x, z, hN⟩
          exact ⟨y, List.mem_cons_of_mem _ hy, q⟩
section
variable {t : Pn07.Task} {p q : Nat} {row : List Nat} {o : List (Nat × Nat)}
def actBad (t : Pn07.Task) (p q : Nat) (o : List (Nat × Nat)) : Prop := 2 ^ t.facts ≤ p ∨ 2 ^ t.facts ≤ q ∨ o = [] ∨ 3 < o.length ∨ (o.any fun x => decide (2 ^ t.facts ≤ x.1) || decide (2 ^ t.facts ≤ x.2)) = true
theorem act_full (h : t.acts.length = 6) : Pn07.step ⟨t⟩ (.act p q row) = (⟨t⟩, Pn07.ok (-7)) := if_pos h
theorem act_odd (h : ¬ t.acts.length = 6) (e : Pn07.pairs row = none) : Pn07.step ⟨t⟩ (.act p q row) = (⟨t⟩, Pn07.ok (-1)) := by
  unfold Pn07.step
  simp only [e]
  exact if_neg h
theorem act_bad (h : ¬ t.acts.length = 6) (e : Pn07.pairs row = some o) (b : actBad t p q o) : Pn07.step ⟨t⟩ (.act p q row) = (⟨t⟩, Pn07.ok (-1)) := by
  unfold Pn07.step
  simp only [e]
  exact (if_neg h).trans (if_pos b)
theorem act_ok (h : ¬ t.acts.length = 6) (e : Pn07.pairs row = some o) (b : ¬ actBad t p q o) : Pn07.step ⟨t⟩ (.act p q row) = (⟨{ t with acts := t.acts ++ [⟨p, q, o⟩] }⟩, Pn07.ok (t.acts.length : Nat)) := by
  unfold Pn07.step
  simp only [e]
  exact (if_neg h).trans (if_neg b)
end
def spAct (CA CH : Addr) : Sp := fun vs H Q _ => ∃ (h ra : Addr) (S : Addr → Prop) (t : Pn07.Task) (p q : Nat) (row : List Nat), vs = [.ref h, iV p, iV q, .ref ra] ∧ HouseAt CA CH S H h t ∧ H ra = some (.lst (row.map iV)) ∧ row.length ≤ 1000 ∧ t.acts.length ≤ 6 ∧
  PostM CA CH S H h (Pn07.step ⟨t⟩ (.act p q row)).1.task (outI (Pn07.step ⟨t⟩ (.act p q row)).2) Q
section
variable {P : Program} {w : World} {K : PySem.W.Frag} {mg : Str → Option Value} {base : Heap} {CA CH : Addr}
theorem scAct : FnScope ["self", "needs", "bars", "row", "some"] ["self", "needs", "bars", "row"] (defScope sAct) := ⟨rfl, rfl, rfl, by decide +kernel, rfl, by decide +kernel, by decide +kernel⟩
theorem ok_act {f fF fP fI : Addr} {fd fdF fdP fdI : FuncData} {t6 t3 : Tok} (F : Fun K "act" "House.act" sAct f fd) (T : TxtH K CH) (U : Cal P w K mg base "are_facts" 1 ["some", "facts"] spFacts fF fdF) (PR : Cal P w K mg base "paired" 1 ["row"] (spPaired K) fP fdP)
    (MA : Mk K CA fI) (GI : FnOk P w K mg base CX0 1 fI fdI ["self", "needs", "bars", "outcomes"] (spAInit CA)) (bI : Binds K fdI ["self", "needs", "bars", "outcomes"] []) (mA : mg "Act" = some (.ref CA))
    (m6 : mg "MOST_ACTS" = some (.int 6 t6)) (m3 : mg "MOST_OUTCOMES" = some (.int 3 t3)) (mL : mg "len" = none) :
    FnOk P w K mg base CX0 3 f fd ["self", "needs", "bars", "row"] (spAct CA CH) := by
  refine F.ok scAct (fun vs H Q E h => ?_) (fun cdv A outer s H vs Q E hr h => ?_)
  · obtain ⟨h, ra, S, t, p, q, row, rfl, _⟩ := h
    rfl
  · obtain ⟨h, ra, S, t, p, q, row, rfl, hh, hrow, hrl, h6, k⟩ := h
    have hr1 : Room 1 _ := hr.mono (by decide)
    refine ⟨_, pss_cons (ps_if (pt_cmpR op_eq (pe_callB call_len_seq (by rfl) mL PySem.boot_len (pa_cons (pe_fld (pv 0) rfl) pa_nil)) (pe_glob rfl m6 (v := .int 6) ⟨_, rfl⟩) (nomark _)) (pss_one (ps_ret (pe_lst (pa_cons (pe_un un_neg pe_int) pa_nil)))) pss_nil)
      (pss_cons (ps_if (PW.pt (pw_or (pt_cmpR op_eq (pe_op op_mod (pe_callB call_len_seq (by rfl) mL PySem.boot_len (pa_cons (pv 3) pa_nil)) pe_int) pe_int (nomark _))
          (pw_or (pt_cmpR op_lt (pe_callB call_len_seq (by rfl) mL PySem.boot_len (pa_cons (pv 3) pa_nil)) pe_int (nomark _))
          (pw_or1 (pt_cmpR op_gt (pe_callB call_len_seq (by rfl) mL PySem.boot_len (pa_cons (pv 3) pa_nil)) (pe_op op_mul pe_int (pe_glob rfl m3 (v := .int 3) ⟨_, rfl⟩)) (nomark _))))))
          (pss_one (ps_ret (pe_lst (pa_cons (pe_un un_neg pe_int) pa_nil)))) pss_nil)
      (pss_cons (ps_for PassesOwn.never rfl (pi_list (pe_op op_cat (pe_lst (pa_cons (pv 1) (pa_cons (pv 2) pa_nil))) (pv 3))) (pg_name (i := 4) scAct.nd rfl (Or.inl rfl))
          (pss_one (ps_if (pt_not (pt_val (pe_call U.ok hr1 rfl U.gl U.kp U.bd .nil pass0 (pa_cons (pv 4) (pa_cons (pe_fld (pv 0) rfl) pa_nil))))) (pss_one (ps_ret (pe_lst (pa_cons (pe_un un_neg pe_int) pa_nil)))) pss_nil)))
      (pss_cons (ps_expr (pe_bm PySem.F.plainAttrs_list PySem.F.slot_list_append PySem.F.type_list_append mt_append (pe_fld (pv 0) rfl)
          (pa_cons (pe_make MA GI hr rfl mA bI .nil pass0 (pa_cons (pv 1) (pa_cons (pv 2) (pa_cons (pe_call PR.ok hr1 rfl PR.gl PR.kp PR.bd .nil pass0 (pa_cons (pv 3) pa_nil)) pa_nil)))) pa_nil)))
      (pss_one (ps_ret (pe_lst (pa_cons (pe_op op_sub (pe_callB call_len_seq (by rfl) mL PySem.boot_len (pa_cons (pe_fld (pv 0) rfl) pa_nil)) pe_int) pa_nil))))))), ?_⟩
    obtain ⟨dx, la, S0, e1, s1, s2, s3, s4, s5, hA⟩ := id hh
    obtain ⟨ps, hla, hps⟩ := id hA
    have hpl : ps.length = t.acts.length := paired_len hps
    refine ⟨_, rfl, h, CH, dx, _, _, rfl, e1, T.cl, T.nA, hF_acts _ _, la, _, rfl, .inl (SqL.of hla), rfl, _, rfl, ?_⟩
    refine ite_by (c' := decide (t.acts.length = 6)) (by rw [List.length_map, hpl]; exact dec_int.trans (decide_eq_decide.mpr (by omega))) (fun h0 => ?_) (fun h0 => ?_)
    · rw [act_full (of_decide_eq_true h0)] at k
      exact ⟨_, rfl, one_le, fun q hq => k.read hh (same_new hq) hq upd_same⟩
    have h0 := of_decide_eq_false h0
    have no : ∀ {H1 : Hp}, Same H H1 → Pn07.step ⟨t⟩ (.act p q row) = (⟨t⟩, Pn07.ok (-1)) → ∀ q, H1 q = none → Q (.ref q) (upd H1 q (.lst [V.int (-1)])) := fun {H1} hs e q hq => by
      rw [e] at k
      exact k.read hh (hs.trans (same_new hq)) (hs.free hq) upd_same
    refine ⟨_, rfl, ra, _, rfl, .inl (SqL.of hrow), _, _, rfl, rfl, (by show (0 : Int) < 2; decide), rfl, _, rfl, ?_⟩
    refine ite_by (c' := decide (row.length % 2 = 1)) (by rw [List.length_map]; exact dec_int.trans (decide_eq_decide.mpr (by omega))) (fun h1 => ?_) (fun h1 => ?_)
    · exact ⟨_, rfl, one_le, no (Same.refl _) (act_odd h0 (pairs_odd (of_decide_eq_true h1)))⟩
    have h1 := of_decide_eq_false h1
    obtain ⟨o, ho⟩ := pairs_even (row := row) (by omega)
    have hol := pairs_len ho
    refine ⟨_, rfl, ra, _, rfl, .inl (SqL.of hrow), _, _, rfl, rfl, _, rfl, ?_⟩
    refine ite_by (c' := decide (row.length < 2)) (by rw [List.length_map]; exact decide_eq_decide.mpr (by omega)) (fun h2 => ?_) (fun h2 => ?_)
    · have h2 := of_decide_eq_true h2
      exact ⟨_, rfl, one_le, no (Same.refl _) (act_bad h0 ho (.inr (.inr (.inl (List.length_eq_zero_iff.mp (by omega))))))⟩
    have h2 := of_decide_eq_false h2
    refine ⟨_, rfl, ra, _, rfl, .inl (SqL.of hrow), _, _, rfl, rfl, .inl ⟨by decide, by decide⟩, _, _, rfl, rfl, _, rfl, ?_⟩
    refine ite_by (c' := decide (6 < row.length)) (by rw [List.length_map]; exact decide_eq_decide.mpr (by omega)) (fun h3 => ?_) (fun h3 => ?_)
    · have h3 := of_decide_eq_true h3
      exact ⟨_, rfl, one_le, no (Same.refl _) (act_bad h0 ho (.inr (.inr (.inr (.inl (by omega))))))⟩
    have h3 := of_decide_eq_false h3
    -- for some in [needs, bars] + row
    refine ⟨_, rfl, _, rfl, (by show 2 ≤ sizeLine; decide), fun l1 hl1 => ?_⟩
    have n1 : Same H (upd H l1 (.lst [iV p, iV q])) := same_new hl1
    refine ⟨_, rfl, l1, ra, _, _, rfl, rfl, upd_same, n1 _ _ hrow, (by rw [List.length_map]; show 2 + row.length ≤ sizeLine; exact Nat.le_of_lt (small1000 (by omega))), fun l2 hl2 => ?_⟩
    have n2 : Same H (upd (upd H l1 (.lst [iV p, iV q])) l2 (.lst ([iV p, iV q] ++ row.map iV))) := n1.trans (same_new hl2)
    have m2 : upd (upd H l1 (.lst [iV p, iV q])) l2 (.lst ([iV p, iV q] ++ row.map iV)) l2 = some (.lst ((p :: q :: row).map iV)) := upd_same
    generalize upd (upd H l1 (.lst [iV p, iV q])) l2 (.lst ([iV p, iV q] ++ row.map iV)) = H1 at n2 m2 ⊢
    refine ⟨l2, rfl, ⟨_, SqL.of m2⟩, for_list (K := K) (a := l2) (xs := (p :: q :: row).map iV) (fun i σ H' => ∃ v : Option V, σ = [some (.ref h), some (iV p), some (iV q), some (.ref ra), v] ∧ H1 = H' ∧ ∀ x ∈ (p :: q :: row).take i, x < 2 ^ t.facts) ?_ ?_ ?_ ?_⟩
    · exact ⟨none, rfl, rfl, fun x hx => absurd hx (by rw [List.take_zero]; exact List.not_mem_nil)⟩
    · rintro i σ H' _ ⟨v, rfl, rfl, _⟩
      exact SqL.of m2
    · rintro i x σ H' hx ⟨v, rfl, rfl, hi⟩
      rw [List.getElem?_map] at hx
      cases e : (p :: q :: row)[i]? with
      | none => rw [e] at hx; cases hx
      | some u =>
        rw [e] at hx
        cases hx
        refine ⟨_, rfl, _, rfl, h, CH, dx, _, _, rfl, n2 _ _ e1, T.cl, T.nF, hF_facts _ _, u, t.facts, rfl, _, rfl, ?_⟩
        refine ite_by (c' := decide (2 ^ t.facts ≤ u)) (by by_cases z : 2 ^ t.facts ≤ u <;> simp [z] <;> omega) (fun h4 => ?_) (fun h4 => ?_)
        · have h4 := of_decide_eq_true h4
          refine ⟨_, rfl, one_le, no n2 (act_bad h0 ho ?_)⟩
          rcases List.mem_cons.mp (List.mem_of_getElem? e) with z | z
          · exact .inl (by rw [← z]; exact h4)
          · rcases List.mem_cons.mp z with z | z
            · exact .inr (.inl (by rw [← z]; exact h4))
            · obtain ⟨y, hy, hq⟩ := pairs_some (N := 2 ^ t.facts) ho ⟨u, z, h4⟩
              refine .inr (.inr (.inr (.inr (List.any_eq_true.mpr ⟨y, hy, ?_⟩))))
              rw [Bool.or_eq_true]
              exact hq.imp decide_eq_true decide_eq_true
        · have h4 := of_decide_eq_false h4
          refine ⟨_, rfl, rfl, fun x hx => ?_⟩
          rw [take_more e] at hx
          rcases List.mem_append.mp hx with z | z
          · exact hi x z
          · rw [List.mem_singleton.mp z]
            omega
    · rintro σ H' ⟨v, rfl, rfl, hi⟩
      rw [List.length_map, List.take_length] at hi
      have hp := hi p (List.mem_cons_self ..)
      have hq := hi q (List.mem_cons_of_mem _ (List.mem_cons_self ..))
      have hO := pairs_all (N := 2 ^ t.facts) ho fun x hx => hi x (List.mem_cons_of_mem _ (List.mem_cons_of_mem _ hx))
      have good : ¬ actBad t p q o := by
        rintro (z | z | z | z | z)
        · omega
        · omega
        · have : o.length = 0 := by rw [z]; rfl
          omega
        · omega
        · obtain ⟨y, hy, z⟩ := List.any_eq_true.mp z
          have := hO y hy
          rw [Bool.or_eq_true, decide_eq_true_eq, decide_eq_true_eq] at z
          omega
      rw [act_ok h0 ho good] at k
      -- self.acts.append(Act(needs, bars, paired(row)))
      refine ⟨_, rfl, h, CH, dx, _, _, rfl, n2 _ _ e1, T.cl, T.nA, hF_acts _ _, .inl ⟨rfl, _, SqL.of (n2 _ _ hla)⟩, _, rfl, _, rfl, _, rfl, ra, row, o, rfl, SqL.of (n2 _ _ hrow), ho, (by omega), fun H2 lo ts hs2 hlo hl2 hts hpo => ?_⟩
      have n3 := n2.trans hs2
      have hlo0 : H lo = none := n2.free hlo
      have hts0 : ∀ b ∈ ts, H b = none := fun b hb => n2.free (hts b hb)
      intro x dx' hx hdx hne
      refine ⟨x, dx', lo, ⟨p, q, o⟩, rfl, upd_same, fun H3 hx3 hk3 => ⟨rfl, ?_⟩⟩
      have s23 : Same H2 H3 := Same.made hx hdx hk3
      have n4 := n3.trans s23
      have hx0 : H x = none := n3.free hx
      refine ⟨la, _, _, rfl, rfl, n4 _ _ hla, (by rw [List.length_map]; exact small1000 (by omega)), ?_⟩
      have hhla : h ≠ la := ne_of e1 hla (by intro z; cases z)
      have e4 : upd H3 la (.lst (ps.map V.ref ++ [V.ref x])) h = some (.ins CH dx (hF t la)) := by rw [upd_ne hhla]; exact n4 _ _ e1
      refine ⟨_, rfl, h, CH, dx, _, _, rfl, e4, T.cl, T.nA, hF_acts _ _, la, _, rfl, .inl (SqL.of upd_same), _, _, rfl, rfl, one_le, fun r hr' => ?_⟩
      have hrla : la ≠ r := ne_of_none upd_same hr'
      have hr3 : H3 r = none := by rw [upd_ne hrla.symm] at hr'; exact hr'
      have hr0 : H r = none := n4.free hr3
      -- what stands behind it all
      have kp3 : ∀ b ob, H3 b = some ob → b ≠ la → upd (upd H3 la (.lst (ps.map V.ref ++ [V.ref x]))) r (.lst [V.int ((((ps.map V.ref ++ [V.ref x]).length : Nat) : Int) - 1)]) b = some ob := fun b ob e hb => by
        rw [upd_ne (ne_of_none e hr3), upd_ne hb]
        exact e
      have kp : ∀ b ob, H b = some ob → b ≠ la → upd (upd H3 la (.lst (ps.map V.ref ++ [V.ref x]))) r (.lst [V.int ((((ps.map V.ref ++ [V.ref x]).length : Nat) : Int) - 1)]) b = some ob := fun b ob e hb => kp3 b ob (n4 _ _ e) hb
      have xla : x ≠ la := fun z => by rw [z, hla] at hx0; cases hx0
      have lola : lo ≠ la := fun z => by rw [z, hla] at hlo0; cases hlo0
      refine k _ (fun b => S b ∨ b = x ∨ b = lo ∨ b ∈ ts) r ⟨dx, la, fun b => S0 b ∨ b = x ∨ b = lo ∨ b ∈ ts, kp h _ e1 hhla, .inl s1, .inl s2, fun b z => z.imp (s3 b) id, ?_, ?_, ps ++ [x], ?_, ?_⟩ ?_ (fun b ob e hb => kp b ob e fun z => hb (by rw [z]; exact s2)) hr0 ?_
      · rintro (z | z | z | z)
        · exact s4 z
        · rw [← z, e1] at hx0; cases hx0
        · rw [← z, e1] at hlo0; cases hlo0
        · have := hts0 h z
          rw [e1] at this
          cases this
      · rintro (z | z | z | z)
        · exact s5 z
        · exact xla z.symm
        · exact lola z.symm
        · have := hts0 la z
          rw [hla] at this
          cases this
      · rw [upd_ne hrla, upd_same, List.map_append]
        rfl
      · refine Paired.snoc (paired_imp hps fun a b _ z => (z.keep fun b ob y e => kp b ob e fun z => s5 (by rw [← z]; exact y)).wide fun b y => .inl y) ?_
        refine ⟨dx', lo, ts, kp3 x _ hx3 xla, kp3 lo _ (s23 _ _ hl2) lola, .inr (.inl rfl), .inr (.inr (.inl rfl)), fun b hb => .inr (.inr (.inr hb)), paired_imp hpo fun a b ha z => ?_⟩
        refine kp3 a _ (s23 _ _ z) fun y => ?_
        have := hts0 a ha
        rw [y, hla] at this
        cases this
      · rintro b (z | z | z | z)
        · exact .inl z
        · exact .inr (by rw [z]; exact hx0)
        · exact .inr (by rw [z]; exact hlo0)
        · exact .inr (hts0 b z)
      · rw [upd_same]
        have : (((ps.map V.ref ++ [V.ref x]).length : Nat) : Int) - 1 = ((t.acts.length : Nat) : Int) := by
          rw [List.length_append, List.length_map, hpl, List.length_singleton]
          omega
        show some (HO.lst [V.int ((((ps.map V.ref ++ [V.ref x]).length : Nat) : Int) - 1)]) = _
        rw [this]
        rfl
end
end Sh
set_option Elab.async false
set_option maxRecDepth 100000
set_option maxHeartbeats 2000000
namespace Sh
open PySem PySem.Spec PyProof.Rows L2
section
variable {t : Pn07.Task}
theorem sz16 (w : Wf t) : sz t ≤ 16 := Nat.pow_le_pow_right (by decide) w.f4
theorem sure_no {s : Nat} (h : 2 ^ t.facts ≤ s) : Pn07.step ⟨t⟩ (.sure s) = (⟨t⟩, Pn07.ok (-1)) := if_pos h
theorem sure_none {s : Nat} (h : ¬ 2 ^ t.facts ≤ s) (e : Pn07.level t.sure s = none) : Pn07.step ⟨t⟩ (.sure s) = (⟨t⟩, Pn07.ok (-6)) := by
  unfold Pn07.step
  simp only [e]
  exact if_neg h
theorem sure_some {s n : Nat} (h : ¬ 2 ^ t.facts ≤ s) (e : Pn07.level t.sure s = some n) : Pn07.step ⟨t⟩ (.sure s) = (⟨t⟩, ⟨(n : Nat), t.told (t.sureAct t.sure) s⟩) := by
  unfold Pn07.step
  simp only [e]
  exact if_neg h
theorem hope_no {s : Nat} (h : 2 ^ t.facts ≤ s) : Pn07.step ⟨t⟩ (.hope s) = (⟨t⟩, Pn07.ok (-1)) := if_pos h
theorem hope_none {s : Nat} (h : ¬ 2 ^ t.facts ≤ s) (e : Pn07.level t.hope s = none) : Pn07.step ⟨t⟩ (.hope s) = (⟨t⟩, Pn07.ok (-6)) := by
  unfold Pn07.step
  simp only [e]
  exact if_neg h
theorem hope_some {s n : Nat} (h : ¬ 2 ^ t.facts ≤ s) (e : Pn07.level t.hope s = some n) : Pn07.step ⟨t⟩ (.hope s) = (⟨t⟩, ⟨(n : Nat), t.told (t.hopeAct t.hope) s⟩) := by
  unfold Pn07.step
  simp only [e]
  exact if_neg h
def ansOf : Pn07.Verdict → Pn07.Ans
  | .lost u => ⟨3, [u]⟩
  | .stuck u => ⟨0, [u]⟩
  | .hope => Pn07.ok 1
  | .sure n => ⟨2, [n]⟩
theorem judge_odd {s : Nat} {row : List Nat} (e : Pn07.pairs row = none) : Pn07.step ⟨t⟩ (.judge s row) = (⟨t⟩, Pn07.ok (-1)) := by
  unfold Pn07.step
  simp only [e]
theorem judge_no {s : Nat} {row : List Nat} {o : List (Nat × Nat)} (e : Pn07.pairs row = some o) (h : 2 ^ t.facts ≤ s) : Pn07.step ⟨t⟩ (.judge s row) = (⟨t⟩, Pn07.ok (-1)) := by
  unfold Pn07.step
  simp only [e]
  exact if_pos h
theorem judge_ok {s : Nat} {row : List Nat} {o : List (Nat × Nat)} (e : Pn07.pairs row = some o) (h : ¬ 2 ^ t.facts ≤ s) : Pn07.step ⟨t⟩ (.judge s row) = (⟨t⟩, ansOf (t.judge (Pn07.ruleOf o) s)) := by
  unfold Pn07.step
  simp only [e]
  refine (if_neg h).trans ?_
  cases t.judge (Pn07.ruleOf o) s <;> rfl
theorem out4 (v : Pn07.Verdict) : (told4 v).map iV = (outI (ansOf v)).map V.int := by cases v <;> rfl
theorem map_iV (l : List Nat) : l.map iV = (l.map fun (n : Nat) => (n : Int)).map V.int := by
  rw [List.map_map]
  rfl
/-- a rule that is told, in the program's words and in the specification's -/
theorem told_eq (wf : Wf t) {here : Nat → Here} {f : Pn07.Rule} {rl : List (Nat × Nat)} {l : List Nat} {s : Nat} (hf : ∀ u, rl.lookup u = f u) (hg : GoodRule t f) (hh : ∀ u k, f u = some k → (here u).lookup k = some (t.next u k)) (hs : s < sz t)
    (hris : Rising l) (hall : ∀ x, x ∈ l ↔ Reach (nxW (ruledH here rl)) s x) : toldOf rl l = t.told f s := by
  have hnx : nxW (ruledH here rl) = nxS t f := (nx_rule hf hh).trans hg.nx.symm
  have hways : l = t.ways f s := by
    obtain ⟨w1, w2⟩ := ways_all (t := t) (f := f) (s := s) (nxS_lt wf) hs
    refine rising_ext hris w1 fun x => ?_
    rw [hall x, w2 x, hnx]
  rw [hg.told, hways]
  unfold toldOf
  congr 1
  funext u
  rw [hf u]
  all_goals (cases f u <;> rfl)
end
def spAllWays (CA CH : Addr) : Sp := fun vs H Q _ => ∃ (h : Addr) (S : Addr → Prop) (t : Pn07.Task), vs = [.ref h] ∧ HouseAt CA CH S H h t ∧ Wf t ∧ ∀ (H' : Hp) (q : Addr), Same H H' → H q = none → WaysAt H' q t.states (hereT t) → Q (.ref q) H'
def spSure (CA CH : Addr) : Sp := fun vs H Q _ => ∃ (h : Addr) (S : Addr → Prop) (t : Pn07.Task) (s : Nat), vs = [.ref h, iV s] ∧ HouseAt CA CH S H h t ∧ Wf t ∧
  PostM CA CH S H h (Pn07.step ⟨t⟩ (.sure s)).1.task (outI (Pn07.step ⟨t⟩ (.sure s)).2) Q
def spHope (CA CH : Addr) : Sp := fun vs H Q _ => ∃ (h : Addr) (S : Addr → Prop) (t : Pn07.Task) (s : Nat), vs = [.ref h, iV s] ∧ HouseAt CA CH S H h t ∧ Wf t ∧
  PostM CA CH S H h (Pn07.step ⟨t⟩ (.hope s)).1.task (outI (Pn07.step ⟨t⟩ (.hope s)).2) Q
def spFrom (CA CH : Addr) : Sp := fun vs H Q _ => ∃ (h : Addr) (S : Addr → Prop) (t : Pn07.Task), vs = [.ref h] ∧ HouseAt CA CH S H h t ∧ Wf t ∧
  PostM CA CH S H h (Pn07.step ⟨t⟩ .from_).1.task (outI (Pn07.step ⟨t⟩ .from_).2) Q
def spJudge (CA CH : Addr) : Sp := fun vs H Q _ => ∃ (h ra : Addr) (S : Addr → Prop) (t : Pn07.Task) (s : Nat) (row : List Nat), vs = [.ref h, iV s, .ref ra] ∧ HouseAt CA CH S H h t ∧ Wf t ∧ H ra = some (.lst (row.map iV)) ∧ row.length ≤ 1000 ∧
  PostM CA CH S H h (Pn07.step ⟨t⟩ (.judge s row)).1.task (outI (Pn07.step ⟨t⟩ (.judge s row)).2) Q
section
variable {P : Program} {w : World} {K : PySem.W.Frag} {mg : Str → Option Value} {base : Heap} {CA CH : Addr}
theorem scAllWays : FnScope ["self"] ["self"] (defScope sAllWays) := ⟨rfl, rfl, rfl, by decide +kernel, rfl, by decide +kernel, by decide +kernel⟩
theorem ok_allways {f fW : Addr} {fd fdW : FuncData} (F : Fun K "all_ways" "House.all_ways" sAllWays f fd) (T : TxtH K CH) (W : Cal P w K mg base "ways_of" 3 ["acts", "how_many"] (spWaysOf CA) fW fdW) : FnOk P w K mg base CX0 4 f fd ["self"] (spAllWays CA CH) := by
  refine F.ok scAllWays (fun vs H Q E h => ?_) (fun cdv A outer s H vs Q E hr h => ?_)
  · obtain ⟨h, S, t, rfl, _⟩ := h
    rfl
  · obtain ⟨h, S, t, rfl, hh, wf, k⟩ := h
    refine ⟨_, pss_one (ps_ret (pe_call W.ok hr rfl W.gl W.kp W.bd .nil pass0 (pa_cons (pe_fld (pv 0) rfl) (pa_cons (pe_op op_shl pe_int (pe_fld (pv 0) rfl)) pa_nil)))), ?_⟩
    obtain ⟨dx, la, S0, e1, s1, s2, s3, s4, s5, hA0⟩ := id hh
    have hA : ActsAt CA (fun _ => True) H la t.acts := hA0.wide fun _ _ => trivial
    have hO : ∀ a ∈ t.acts, a.outs.length ≤ 1000 := fun a ha => Nat.le_trans (wf.acts a ha).most (by decide)
    have h16 := sz16 wf
    refine ⟨_, rfl, h, CH, dx, _, _, rfl, e1, T.cl, T.nA, hF_acts _ _, _, rfl, h, CH, dx, _, _, rfl, e1, T.cl, T.nF, hF_facts _ _, _, _, rfl, rfl, ⟨Int.natCast_nonneg _, (by have := wf.f4; omega), (by decide)⟩, ?_⟩
    refine ⟨la, t.acts, sz t, ?_, hA, hO, Nat.le_trans wf.few (by decide), (by omega), fun H1 q hs hq hW => k H1 q hs hq ?_⟩
    · have : (1 : Int) * 2 ^ ((t.facts : Int).toNat) = ((sz t : Nat) : Int) := by
        rw [Int.one_mul, Int.toNat_natCast]
        exact (Int.natCast_pow 2 t.facts).symm
      show [V.ref la, V.int ((1 : Int) * 2 ^ ((t.facts : Int).toNat))] = _
      rw [this]
    · have e : (fun s => hereA t.acts s t.acts.length) = hereT t := funext fun s => hereA_T t s
      rw [e] at hW
      exact hW
theorem hF_allways (t : Pn07.Task) (la : Addr) : (hF t la).lookup ("all_ways" : Str) = none := hF_no _ _ (by decide +kernel) (by decide +kernel) (by decide +kernel)
theorem scSure : FnScope ["self", "state"] ["self", "state"] (defScope sSure) := ⟨rfl, rfl, rfl, by decide +kernel, rfl, by decide +kernel, by decide +kernel⟩
theorem ok_sure {f fF fW fL fx : Addr} {fd fdF fdW fdL fdx : FuncData} (F : Fun K "sure" "House.sure" sSure f fd) (T : TxtH K CH) (U : Cal P w K mg base "are_facts" 1 ["some", "facts"] spFacts fF fdF)
    (W : Mth P w K mg base CH "all_ways" 4 ["self"] (spAllWays CA CH) fW fdW) (L : Cal P w K mg base "level_and_rule" 6 ["ways", "wanted", "serves", "state"] (spLvR true fx) fL fdL) (AX : Cal P w K mg base "all_up_to" 2 ["states", "levels", "top"] (spUp true) fx fdx) :
    FnOk P w K mg base CX0 7 f fd ["self", "state"] (spSure CA CH) := by
  refine F.ok scSure (fun vs H Q E h => ?_) (fun cdv A outer s H vs Q E hr h => ?_)
  · obtain ⟨h, S, t, s, rfl, _⟩ := h
    rfl
  · obtain ⟨h, S, t, s, rfl, hh, wf, k⟩ := h
    have hr1 : Room 1 _ := hr.mono (by decide)
    have hr4 : Room 4 _ := hr.mono (by decide)
    refine ⟨_, pss_cons (ps_if (pt_not (pt_val (pe_call U.ok hr1 rfl U.gl U.kp U.bd .nil pass0 (pa_cons (pv 1) (pa_cons (pe_fld (pv 0) rfl) pa_nil))))) (pss_one (ps_ret (pe_lst (pa_cons (pe_un un_neg pe_int) pa_nil)))) pss_nil)
      (pss_one (ps_ret (pe_call L.ok hr rfl L.gl L.kp L.bd .nil pass0 (pa_cons (pe_meth0 (pv 0) T.cl W.me W.ok hr4 W.bd .nil pass0) (pa_cons (pe_fld (pv 0) rfl) (pa_cons (pe_glob rfl AX.gl (v := .ref fx) rfl) (pa_cons (pv 1) pa_nil))))))), ?_⟩
    obtain ⟨dx, la, S0, e1, s1, s2, s3, s4, s5, hA0⟩ := id hh
    refine ⟨_, rfl, _, rfl, h, CH, dx, _, _, rfl, e1, T.cl, T.nF, hF_facts _ _, s, t.facts, rfl, _, rfl, ?_⟩
    refine ite_by (c' := decide (2 ^ t.facts ≤ s)) (by by_cases z : 2 ^ t.facts ≤ s <;> simp [z] <;> omega) (fun h3 => ?_) (fun h3 => ?_)
    · rw [sure_no (of_decide_eq_true h3)] at k
      exact ⟨_, rfl, one_le, fun q hq => k.read hh (same_new hq) hq upd_same⟩
    have h3 := of_decide_eq_false h3
    have hslt : s < sz t := Nat.lt_of_not_le h3
    refine ⟨_, rfl, h, dx, _, rfl, e1, hF_allways _ _, h, S, t, rfl, hh, wf, fun H1 wd hs1 hwd hW => ?_⟩
    have e1' := hs1 _ _ e1
    refine ⟨_, rfl, h, CH, dx, _, _, rfl, e1', T.cl, T.nW, hF_wanted _ _, _, rfl, wd, t.states, hereT t, t.goal, s, rfl, hW, good_T wf, fun hlv H2 q hs2 hq hl => ?_, fun n hlv H2 q rl l hs2 hq hlk hris hall hl => ?_⟩
    · rw [sure_W] at hlv
      rw [sure_none h3 hlv] at k
      exact k.read hh (hs1.trans hs2) (hs1.free hq) hl
    · rw [sure_W] at hlv hlk
      rw [sure_some h3 hlv] at k
      have hf : ∀ u, rl.lookup u = t.sureAct t.sure u := fun u => (hlk u).trans (rule_sureW u)
      rw [told_eq wf hf good_sure (fun u kk e => hereT_lookup (sureAct_some e).2.1) hslt hris hall, map_iV] at hl
      exact k.read hh (hs1.trans hs2) (hs1.free hq) hl
theorem scHope : FnScope ["self", "state", "hopeful"] ["self", "state"] (defScope sHope) := ⟨rfl, rfl, rfl, by decide +kernel, rfl, by decide +kernel, by decide +kernel⟩
theorem ok_hope {f fF fW fL fy fH : Addr} {fd fdF fdW fdL fdy fdH : FuncData} (F : Fun K "hope" "House.hope" sHope f fd) (T : TxtH K CH) (U : Cal P w K mg base "are_facts" 1 ["some", "facts"] spFacts fF fdF)
    (W : Mth P w K mg base CH "all_ways" 4 ["self"] (spAllWays CA CH) fW fdW) (HP : Cal P w K mg base "hopeful_ways" 6 ["ways", "wanted"] spHopeful fH fdH) (L : Cal P w K mg base "level_and_rule" 6 ["ways", "wanted", "serves", "state"] (spLvR false fy) fL fdL)
    (AY : Cal P w K mg base "any_up_to" 2 ["states", "levels", "top"] (spUp false) fy fdy) : FnOk P w K mg base CX0 7 f fd ["self", "state"] (spHope CA CH) := by
  refine F.ok scHope (fun vs H Q E h => ?_) (fun cdv A outer s H vs Q E hr h => ?_)
  · obtain ⟨h, S, t, s, rfl, _⟩ := h
    rfl
  · obtain ⟨h, S, t, s, rfl, hh, wf, k⟩ := h
    have hr1 : Room 1 _ := hr.mono (by decide)
    have hr4 : Room 4 _ := hr.mono (by decide)
    refine ⟨_, pss_cons (ps_if (pt_not (pt_val (pe_call U.ok hr1 rfl U.gl U.kp U.bd .nil pass0 (pa_cons (pv 1) (pa_cons (pe_fld (pv 0) rfl) pa_nil))))) (pss_one (ps_ret (pe_lst (pa_cons (pe_un un_neg pe_int) pa_nil)))) pss_nil)
      (pss_cons (ps_set (i := 2) scHope.nd rfl (Or.inl rfl) (pe_call HP.ok hr rfl HP.gl HP.kp HP.bd .nil pass0 (pa_cons (pe_meth0 (pv 0) T.cl W.me W.ok hr4 W.bd .nil pass0) (pa_cons (pe_fld (pv 0) rfl) pa_nil))))
      (pss_one (ps_ret (pe_call L.ok hr rfl L.gl L.kp L.bd .nil pass0 (pa_cons (pv 2) (pa_cons (pe_fld (pv 0) rfl) (pa_cons (pe_glob rfl AY.gl (v := .ref fy) rfl) (pa_cons (pv 1) pa_nil)))))))), ?_⟩
    obtain ⟨dx, la, S0, e1, s1, s2, s3, s4, s5, hA0⟩ := id hh
    refine ⟨_, rfl, _, rfl, h, CH, dx, _, _, rfl, e1, T.cl, T.nF, hF_facts _ _, s, t.facts, rfl, _, rfl, ?_⟩
    refine ite_by (c' := decide (2 ^ t.facts ≤ s)) (by by_cases z : 2 ^ t.facts ≤ s <;> simp [z] <;> omega) (fun h3 => ?_) (fun h3 => ?_)
    · rw [hope_no (of_decide_eq_true h3)] at k
      exact ⟨_, rfl, one_le, fun q hq => k.read hh (same_new hq) hq upd_same⟩
    have h3 := of_decide_eq_false h3
    have hslt : s < sz t := Nat.lt_of_not_le h3
    refine ⟨_, rfl, h, dx, _, rfl, e1, hF_allways _ _, h, S, t, rfl, hh, wf, fun H1 wd hs1 hwd hW => ?_⟩
    refine ⟨_, rfl, h, CH, dx, _, _, rfl, hs1 _ _ e1, T.cl, T.nW, hF_wanted _ _, wd, t, rfl, wf, hW, fun H2 hd B here hs2 hWh he => ?_⟩
    have hs12 := hs1.trans hs2
    refine ⟨_, rfl, _, rfl, h, CH, dx, _, _, rfl, hs12 _ _ e1, T.cl, T.nW, hF_wanted _ _, _, rfl, hd, B, here, t.goal, s, rfl, hWh, he.good, fun hlv H3 q hs3 hq hl => ?_, fun n hlv H3 q rl l hs3 hq hlk hris hall hl => ?_⟩
    · rw [he.lv] at hlv
      rw [hope_none h3 hlv] at k
      exact k.read hh (hs12.trans hs3) (hs12.free hq) hl
    · rw [he.lv] at hlv
      rw [hope_some h3 hlv] at k
      have hf : ∀ u, rl.lookup u = t.hopeAct t.hope u := fun u => (hlk u).trans (he.rule u)
      have ht := told_eq wf hf good_hope (fun u kk e => he.told e) hslt hris hall
      rw [ht, map_iV] at hl
      exact k.read hh (hs12.trans hs3) (hs12.free hq) hl
theorem scFrom : FnScope ["self", "ways", "levels", "hopes_levels"] ["self"] (defScope sFrom) := ⟨rfl, rfl, rfl, by decide +kernel, rfl, by decide +kernel, by decide +kernel⟩
theorem ok_from {f fW fL fx fy fH : Addr} {fd fdW fdL fdx fdy fdH : FuncData} (F : Fun K "from_where" "House.from_where" sFrom f fd) (T : TxtH K CH)
    (W : Mth P w K mg base CH "all_ways" 4 ["self"] (spAllWays CA CH) fW fdW) (HP : Cal P w K mg base "hopeful_ways" 6 ["ways", "wanted"] spHopeful fH fdH)
    (LA : Cal P w K mg base "levels_of" 5 ["ways", "wanted", "serves"] (spLevels true fx) fL fdL) (LY : Cal P w K mg base "levels_of" 5 ["ways", "wanted", "serves"] (spLevels false fy) fL fdL)
    (AX : Cal P w K mg base "all_up_to" 2 ["states", "levels", "top"] (spUp true) fx fdx) (AY : Cal P w K mg base "any_up_to" 2 ["states", "levels", "top"] (spUp false) fy fdy) (mL : mg "len" = none) : FnOk P w K mg base CX0 7 f fd ["self"] (spFrom CA CH) := by
  refine F.ok scFrom (fun vs H Q E h => ?_) (fun cdv A outer s H vs Q E hr h => ?_)
  · obtain ⟨h, S, t, rfl, _⟩ := h
    rfl
  · obtain ⟨h, S, t, rfl, hh, wf, k⟩ := h
    have hr4 : Room 4 _ := hr.mono (by decide)
    have hr5 : Room 5 _ := hr.mono (by decide)
    refine ⟨_, pss_cons (ps_set (i := 1) scFrom.nd rfl (Or.inl rfl) (pe_meth0 (pv 0) T.cl W.me W.ok hr4 W.bd .nil pass0))
      (pss_cons (ps_set (i := 2) scFrom.nd rfl (Or.inl rfl) (pe_call LA.ok hr5 rfl LA.gl LA.kp LA.bd .nil pass0 (pa_cons (pv 1) (pa_cons (pe_fld (pv 0) rfl) (pa_cons (pe_glob rfl AX.gl (v := .ref fx) rfl) pa_nil)))))
      (pss_cons (ps_set (i := 3) scFrom.nd rfl (Or.inl rfl) (pe_call LY.ok hr5 rfl LY.gl LY.kp LY.bd .nil pass0 (pa_cons (pe_call HP.ok hr rfl HP.gl HP.kp HP.bd .nil pass0 (pa_cons (pv 1) (pa_cons (pe_fld (pv 0) rfl) pa_nil))) (pa_cons (pe_fld (pv 0) rfl) (pa_cons (pe_glob rfl AY.gl (v := .ref fy) rfl) pa_nil)))))
      (pss_one (ps_ret (pe_lst (pa_cons (pe_callB call_lenD (by rfl) mL PySem.boot_len (pa_cons (pv 2) pa_nil)) (pa_cons (pe_callB call_lenD (by rfl) mL PySem.boot_len (pa_cons (pv 3) pa_nil)) pa_nil))))))), ?_⟩
    obtain ⟨dx, la, S0, e1, s1, s2, s3, s4, s5, hA0⟩ := id hh
    refine ⟨_, rfl, h, dx, _, rfl, e1, hF_allways _ _, h, S, t, rfl, hh, wf, fun H1 wd hs1 hwd hW => ?_⟩
    refine ⟨_, rfl, _, rfl, h, CH, dx, _, _, rfl, hs1 _ _ e1, T.cl, T.nW, hF_wanted _ _, wd, t.states, hereT t, t.goal, rfl, hW, good_T wf, fun H2 d hs2 hd0 hd => ?_⟩
    have hs12 := hs1.trans hs2
    refine ⟨_, rfl, _, rfl, h, CH, dx, _, _, rfl, hs12 _ _ e1, T.cl, T.nW, hF_wanted _ _, wd, t, rfl, wf, hW.same hs2, fun H3 hd3 B here hs3 hWh he => ?_⟩
    have hs13 := hs12.trans hs3
    refine ⟨_, rfl, h, CH, dx, _, _, rfl, hs13 _ _ e1, T.cl, T.nW, hF_wanted _ _, hd3, B, here, t.goal, rfl, hWh, he.good, fun H4 d4 hs4 hd40 hd4 => ?_⟩
    have hs14 := hs13.trans hs4
    refine ⟨_, rfl, d, _, rfl, hs4 _ _ (hs3 _ _ hd), _, rfl, d4, _, rfl, hd4, (by show 2 ≤ sizeLine; decide), fun q hq => ?_⟩
    refine PostM.read k hh (hs14.trans (same_new hq)) (hs14.free hq) ?_
    rw [upd_same, dN_len, dN_len, prs_len, prs_len, sure_W, he.count]
    rfl
theorem scJudge : FnScope ["self", "state", "row", "rule"] ["self", "state", "row"] (defScope sJudge) := ⟨rfl, rfl, rfl, by decide +kernel, rfl, by decide +kernel, by decide +kernel⟩
theorem ok_judge {f fF fW fP fT fJ : Addr} {fd fdF fdW fdP fdT fdJ : FuncData} (F : Fun K "judge" "House.judge" sJudge f fd) (T : TxtH K CH) (U : Cal P w K mg base "are_facts" 1 ["some", "facts"] spFacts fF fdF)
    (W : Mth P w K mg base CH "all_ways" 4 ["self"] (spAllWays CA CH) fW fdW) (PR : Cal P w K mg base "paired" 1 ["row"] (spPaired K) fP fdP) (FT : Cal P w K mg base "first_told" 2 ["pairs", "wanted"] spFirstT fT fdT) (J : Cal P w K mg base "judged" 6 ["ways", "wanted", "rule", "start"] spJudged fJ fdJ)
    (mL : mg "len" = none) : FnOk P w K mg base CX0 7 f fd ["self", "state", "row"] (spJudge CA CH) := by
  refine F.ok scJudge (fun vs H Q E h => ?_) (fun cdv A outer s H vs Q E hr h => ?_)
  · obtain ⟨h, ra, S, t, s, row, rfl, _⟩ := h
    rfl
  · obtain ⟨h, ra, S, t, s, row, rfl, hh, wf, hrow, hrl, k⟩ := h
    have hr1 : Room 1 _ := hr.mono (by decide)
    have hr2 : Room 2 _ := hr.mono (by decide)
    have hr4 : Room 4 _ := hr.mono (by decide)
    refine ⟨_, pss_cons (ps_if (PW.pt (pw_or (pt_cmpR op_eq (pe_op op_mod (pe_callB call_len_seq (by rfl) mL PySem.boot_len (pa_cons (pv 2) pa_nil)) pe_int) pe_int (nomark _))
          (pw_or1 (pt_not (pt_val (pe_call U.ok hr1 rfl U.gl U.kp U.bd .nil pass0 (pa_cons (pv 1) (pa_cons (pe_fld (pv 0) rfl) pa_nil))))))))
          (pss_one (ps_ret (pe_lst (pa_cons (pe_un un_neg pe_int) pa_nil)))) pss_nil)
      (pss_cons (ps_set (i := 3) scJudge.nd rfl (Or.inl rfl) (pe_call FT.ok hr2 rfl FT.gl FT.kp FT.bd .nil pass0 (pa_cons (pe_call PR.ok hr1 rfl PR.gl PR.kp PR.bd .nil pass0 (pa_cons (pv 2) pa_nil)) (pa_cons (pe_fld (pv 0) rfl) pa_nil))))
      (pss_one (ps_ret (pe_call J.ok hr rfl J.gl J.kp J.bd .nil pass0 (pa_cons (pe_meth0 (pv 0) T.cl W.me W.ok hr4 W.bd .nil pass0) (pa_cons (pe_fld (pv 0) rfl) (pa_cons (pv 3) (pa_cons (pv 1) pa_nil)))))))), ?_⟩
    obtain ⟨dx, la, S0, e1, s1, s2, s3, s4, s5, hA0⟩ := id hh
    refine ⟨_, rfl, ra, _, rfl, .inl (SqL.of hrow), _, _, rfl, rfl, (by show (0 : Int) < 2; decide), rfl, _, rfl, ?_⟩
    refine ite_by (c' := decide (row.length % 2 = 1)) (by rw [List.length_map]; exact dec_int.trans (decide_eq_decide.mpr (by omega))) (fun h1 => ?_) (fun h1 => ?_)
    · rw [judge_odd (pairs_odd (of_decide_eq_true h1))] at k
      exact ⟨_, rfl, one_le, fun q hq => k.read hh (same_new hq) hq upd_same⟩
    have h1 := of_decide_eq_false h1
    obtain ⟨o, ho⟩ := pairs_even (row := row) (by omega)
    have hol := pairs_len ho
    refine ⟨_, rfl, _, rfl, h, CH, dx, _, _, rfl, e1, T.cl, T.nF, hF_facts _ _, s, t.facts, rfl, _, rfl, ?_⟩
    refine ite_by (c' := decide (2 ^ t.facts ≤ s)) (by by_cases z : 2 ^ t.facts ≤ s <;> simp [z] <;> omega) (fun h3 => ?_) (fun h3 => ?_)
    · rw [judge_no ho (of_decide_eq_true h3)] at k
      exact ⟨_, rfl, one_le, fun q hq => k.read hh (same_new hq) hq upd_same⟩
    have h3 := of_decide_eq_false h3
    have hslt : s < sz t := Nat.lt_of_not_le h3
    rw [judge_ok ho h3] at k
    refine ⟨_, rfl, ra, row, o, rfl, SqL.of hrow, ho, (by omega), fun H1 pa ts hs1 hpa hpl hts hpo => ?_⟩
    refine ⟨_, rfl, h, CH, dx, _, _, rfl, hs1 _ _ e1, T.cl, T.nW, hF_wanted _ _, pa, ts, o, t.goal, rfl, hpl, hpo, (by omega), fun H2 rd rl hs2 hrd0 hrd hlk => ?_⟩
    have hs12 := hs1.trans hs2
    have hbr : Brought t (Pn07.ruleOf o) rl := fun u => hlk u
    refine ⟨_, rfl, h, dx, _, rfl, hs12 _ _ e1, hF_allways _ _, h, S, t, rfl, hh.keep (fun b ob _ e => hs12 b ob e), wf, fun H3 wd hs3 hwd hW => ?_⟩
    have hs13 := hs12.trans hs3
    refine ⟨_, rfl, h, CH, dx, _, _, rfl, hs13 _ _ e1, T.cl, T.nW, hF_wanted _ _, _, rfl, _, rfl, wd, rd, t.states, hereT t, rl, t.goal, s, rfl, hW, good_T wf, hs3 _ _ hrd, mem_states.mpr hslt, fun H4 q l hs4 hq hris hall hl => ?_⟩
    have hways : l = t.ways (Pn07.ruleOf o) s := by
      obtain ⟨w1, w2⟩ := ways_all (t := t) (f := Pn07.ruleOf o) (s := s) (nxS_lt wf) hslt
      refine rising_ext hris w1 fun x => ?_
      rw [hall x, w2 x, nx_brought hbr]
    rw [hways, verdict_is wf hbr s hslt, out4] at hl
    exact k.read hh (hs13.trans hs4) (hs13.free hq) hl
end
end Sh
set_option Elab.async false
set_option maxRecDepth 100000
set_option maxHeartbeats 2000000
namespace Sh
open PySem PySem.Spec PyProof.Rows L2
theorem nonneg_iV {x : Int} (h : 0 ≤ x) : V.int x = iV x.toNat := by
  show V.int x = V.int ((x.toNat : Nat) : Int)
  rw [Int.toNat_of_nonneg h]
/-- end_of_call: behind the call -/
def spEnd (K : PySem.W.Frag) : Sp := fun vs H Q _ => ∃ (a : Addr) (L pre ws rest : List Int) (c : List (List Int)), vs = [.ref a, iV pre.length] ∧ SqL K H a (L.map V.int) ∧ L = pre ++ (ws ++ rest) ∧ CallW c ws ∧ Q (iV (pre.length + ws.length)) H
def spAnsOf (CA CH : Addr) : Sp := fun vs H Q _ => ∃ (h b : Addr) (S : Addr → Prop) (t : Pn07.Task) (ws : List Int) (c : List (List Int)), vs = [.ref h, .ref b] ∧ HouseAt CA CH S H h t ∧ Wf t ∧ H b = some (.lst (ws.map V.int)) ∧ CallW c ws ∧ Pn07Neutral.asked1 c = true ∧
  PostM CA CH S H h (Pn07Neutral.step ⟨t⟩ c).1.task (Pn07Neutral.step ⟨t⟩ c).2 Q
section
variable {P : Program} {w : World} {K : PySem.W.Frag} {mg : Str → Option Value} {base : Heap} {CA CH : Addr}
structure TxtC (mg : Str → Option Value) : Prop where
  c0 : ∃ t, mg "BEGINS" = some (.int 0 t)
  c1 : ∃ t, mg "ACT" = some (.int 1 t)
  c2 : ∃ t, mg "GOAL" = some (.int 2 t)
  c3 : ∃ t, mg "SURE" = some (.int 3 t)
  c4 : ∃ t, mg "HOPE" = some (.int 4 t)
  c5 : ∃ t, mg "FROM" = some (.int 5 t)
  c6 : ∃ t, mg "JUDGE" = some (.int 6 t)
theorem scEnd : FnScope ["calls", "at", "number"] ["calls", "at"] (defScope sEnd) := ⟨rfl, rfl, rfl, by decide +kernel, rfl, by decide +kernel, by decide +kernel⟩
theorem get_pre {pre ws rest : List Int} {k : Nat} {x : Int} (h : ws[k]? = some x) : ((pre ++ (ws ++ rest)).map V.int)[pre.length + k]? = some (V.int x) := by
  have hk : k < ws.length := (List.getElem?_eq_some_iff.mp h).1
  rw [List.getElem?_map, List.getElem?_append_right (Nat.le_add_right _ _), Nat.add_sub_cancel_left, List.getElem?_append_left hk, h]
  rfl
theorem ok_end {f : Addr} {fd : FuncData} (F : Fun K "end_of_call" "end_of_call" sEnd f fd) (T : TxtC mg) : FnOk P w K mg base CX0 1 f fd ["calls", "at"] (spEnd K) := by
  refine F.ok scEnd (fun vs H Q E h => ?_) (fun cdv A outer s H vs Q E hr h => ?_)
  · obtain ⟨a, L, pre, ws, rest, c, rfl, _⟩ := h
    rfl
  · obtain ⟨a, L, pre, ws, rest, c, rfl, hS, rfl, hw, k⟩ := h
    obtain ⟨u0, m0⟩ := T.c0
    obtain ⟨u1, m1⟩ := T.c1
    obtain ⟨u2, m2⟩ := T.c2
    obtain ⟨u3, m3⟩ := T.c3
    obtain ⟨u4, m4⟩ := T.c4
    obtain ⟨u5, m5⟩ := T.c5
    obtain ⟨u6, m6⟩ := T.c6
    refine ⟨_, pss_cons (ps_set (i := 2) scEnd.nd rfl (Or.inl rfl) (pe_ix ix_list (pv 0) (pv 1) (fun _ _ => rfl)))
      (pss_cons (ps_if (pt_cmpR op_eq (pv 2) (pe_glob rfl m5 (v := .int 5) ⟨_, rfl⟩) (nomark _)) (pss_one (ps_ret (pe_op op_add (pv 1) pe_int))) pss_nil)
      (pss_cons (ps_if (PW.pt (pw_or (pt_cmpR op_eq (pv 2) (pe_glob rfl m2 (v := .int 2) ⟨_, rfl⟩) (nomark _)) (pw_or (pt_cmpR op_eq (pv 2) (pe_glob rfl m3 (v := .int 3) ⟨_, rfl⟩) (nomark _)) (pw_or1 (pt_cmpR op_eq (pv 2) (pe_glob rfl m4 (v := .int 4) ⟨_, rfl⟩) (nomark _)))))) (pss_one (ps_ret (pe_op op_add (pv 1) pe_int))) pss_nil)
      (pss_cons (ps_if (pt_cmpR op_eq (pv 2) (pe_glob rfl m0 (v := .int 0) ⟨_, rfl⟩) (nomark _)) (pss_one (ps_ret (pe_op op_add (pv 1) pe_int))) pss_nil)
      (pss_cons (ps_if (pt_cmpR op_eq (pv 2) (pe_glob rfl m1 (v := .int 1) ⟨_, rfl⟩) (nomark _)) (pss_one (ps_ret (pe_op op_add (pe_op op_add (pv 1) pe_int) (pe_ix ix_list (pv 0) (pe_op op_add (pv 1) pe_int) (fun _ _ => rfl))))) pss_nil)
      (pss_cons (ps_if (pt_cmpR op_eq (pv 2) (pe_glob rfl m6 (v := .int 6) ⟨_, rfl⟩) (nomark _)) (pss_one (ps_ret (pe_op op_add (pe_op op_add (pv 1) pe_int) (pe_ix ix_list (pv 0) (pe_op op_add (pv 1) pe_int) (fun _ _ => rfl))))) pss_nil)
      (pss_one ps_never)))))), ?_⟩
    have g0 : ∀ {x : Int}, ws[0]? = some x → atI ((pre ++ (ws ++ rest)).map V.int) ((pre.length : Nat) : Int) = some (V.int x) := fun h => atI_nat (get_pre (k := 0) h)
    have i2 : ∀ {H : Hp} {n : Nat}, Q (iV (pre.length + ws.length)) H → ws.length = n → Q (V.int (((pre.length : Nat) : Int) + (n : Int))) H := fun q e => q_of q (by subst e; rfl)
    cases hw with
    | frm =>
      refine ⟨_, rfl, _, rfl, a, _, _, _, rfl, rfl, hS, g0 rfl, _, rfl, rfl, _, rfl, ?_⟩
      refine ite_by (c' := true) rfl (fun _ => ?_) (fun z => nomatch z)
      exact ⟨_, rfl, _, _, rfl, rfl, i2 (n := 1) k rfl⟩
    | goal x =>
      refine ⟨_, rfl, _, rfl, a, _, _, _, rfl, rfl, hS, g0 rfl, _, rfl, rfl, _, rfl, ?_⟩
      refine ite_by (c' := false) rfl (fun z => nomatch z) (fun _ => ?_)
      refine ⟨_, rfl, rfl, _, rfl, ?_⟩
      refine ite_by (c' := true) rfl (fun _ => ?_) (fun z => nomatch z)
      refine if_true_of rfl ?_
      exact ⟨_, rfl, _, _, rfl, rfl, i2 (n := 2) k rfl⟩
    | sure x =>
      refine ⟨_, rfl, _, rfl, a, _, _, _, rfl, rfl, hS, g0 rfl, _, rfl, rfl, _, rfl, ?_⟩
      refine ite_by (c' := false) rfl (fun z => nomatch z) (fun _ => ?_)
      refine ⟨_, rfl, rfl, _, rfl, ?_⟩
      refine ite_by (c' := false) rfl (fun z => nomatch z) (fun _ => ?_)
      refine ⟨_, rfl, rfl, _, rfl, ?_⟩
      refine ite_by (c' := true) rfl (fun _ => ?_) (fun z => nomatch z)
      refine if_true_of rfl ?_
      exact ⟨_, rfl, _, _, rfl, rfl, i2 (n := 2) k rfl⟩
    | hope x =>
      refine ⟨_, rfl, _, rfl, a, _, _, _, rfl, rfl, hS, g0 rfl, _, rfl, rfl, _, rfl, ?_⟩
      refine ite_by (c' := false) rfl (fun z => nomatch z) (fun _ => ?_)
      refine ⟨_, rfl, rfl, _, rfl, ?_⟩
      refine ite_by (c' := false) rfl (fun z => nomatch z) (fun _ => ?_)
      refine ⟨_, rfl, rfl, _, rfl, ?_⟩
      refine ite_by (c' := false) rfl (fun z => nomatch z) (fun _ => ?_)
      refine ⟨_, rfl, rfl, _, rfl, ?_⟩
      refine ite_by (c' := true) rfl (fun _ => ?_) (fun z => nomatch z)
      exact ⟨_, rfl, _, _, rfl, rfl, i2 (n := 2) k rfl⟩
    | begins x y =>
      refine ⟨_, rfl, _, rfl, a, _, _, _, rfl, rfl, hS, g0 rfl, _, rfl, rfl, _, rfl, ?_⟩
      refine ite_by (c' := false) rfl (fun z => nomatch z) (fun _ => ?_)
      refine ⟨_, rfl, rfl, _, rfl, ?_⟩
      refine ite_by (c' := false) rfl (fun z => nomatch z) (fun _ => ?_)
      refine ⟨_, rfl, rfl, _, rfl, ?_⟩
      refine ite_by (c' := false) rfl (fun z => nomatch z) (fun _ => ?_)
      refine ⟨_, rfl, rfl, _, rfl, ?_⟩
      refine ite_by (c' := false) rfl (fun z => nomatch z) (fun _ => ?_)
      refine ⟨_, rfl, rfl, _, rfl, ?_⟩
      refine ite_by (c' := true) rfl (fun _ => ?_) (fun z => nomatch z)
      exact ⟨_, rfl, _, _, rfl, rfl, i2 (n := 3) k rfl⟩
    | act x y row =>
      refine ⟨_, rfl, _, rfl, a, _, _, _, rfl, rfl, hS, g0 rfl, _, rfl, rfl, _, rfl, ?_⟩
      refine ite_by (c' := false) rfl (fun z => nomatch z) (fun _ => ?_)
      refine ⟨_, rfl, rfl, _, rfl, ?_⟩
      refine ite_by (c' := false) rfl (fun z => nomatch z) (fun _ => ?_)
      refine ⟨_, rfl, rfl, _, rfl, ?_⟩
      refine ite_by (c' := false) rfl (fun z => nomatch z) (fun _ => ?_)
      refine ⟨_, rfl, rfl, _, rfl, ?_⟩
      refine ite_by (c' := false) rfl (fun z => nomatch z) (fun _ => ?_)
      refine ⟨_, rfl, rfl, _, rfl, ?_⟩
      refine ite_by (c' := false) rfl (fun z => nomatch z) (fun _ => ?_)
      refine ⟨_, rfl, rfl, _, rfl, ?_⟩
      refine ite_by (c' := true) rfl (fun _ => ?_) (fun z => nomatch z)
      refine ⟨_, rfl, _, _, rfl, rfl, _, rfl, _, rfl, _, _, rfl, rfl, a, _, _, _, rfl, rfl, hS, at_of (j := pre.length + 3) (by omega) (get_pre (k := 3) rfl), _, _, rfl, rfl, q_of k ?_⟩
      show V.int _ = V.int _
      congr 1
      simp only [List.length_cons]
      omega
    | judge x row =>
      refine ⟨_, rfl, _, rfl, a, _, _, _, rfl, rfl, hS, g0 rfl, _, rfl, rfl, _, rfl, ?_⟩
      refine ite_by (c' := false) rfl (fun z => nomatch z) (fun _ => ?_)
      refine ⟨_, rfl, rfl, _, rfl, ?_⟩
      refine ite_by (c' := false) rfl (fun z => nomatch z) (fun _ => ?_)
      refine ⟨_, rfl, rfl, _, rfl, ?_⟩
      refine ite_by (c' := false) rfl (fun z => nomatch z) (fun _ => ?_)
      refine ⟨_, rfl, rfl, _, rfl, ?_⟩
      refine ite_by (c' := false) rfl (fun z => nomatch z) (fun _ => ?_)
      refine ⟨_, rfl, rfl, _, rfl, ?_⟩
      refine ite_by (c' := false) rfl (fun z => nomatch z) (fun _ => ?_)
      refine ⟨_, rfl, rfl, _, rfl, ?_⟩
      refine ite_by (c' := false) rfl (fun z => nomatch z) (fun _ => ?_)
      refine ⟨_, rfl, rfl, _, rfl, ?_⟩
      refine ite_by (c' := true) rfl (fun _ => ?_) (fun z => nomatch z)
      refine ⟨_, rfl, _, _, rfl, rfl, _, rfl, _, rfl, _, _, rfl, rfl, a, _, _, _, rfl, rfl, hS, at_of (j := pre.length + 2) (by omega) (get_pre (k := 2) rfl), _, _, rfl, rfl, q_of k ?_⟩
      show V.int _ = V.int _
      congr 1
      simp only [List.length_cons]
      omega
end
end Sh
set_option Elab.async false
set_option maxRecDepth 100000
set_option maxHeartbeats 2000000
namespace Sh
open PySem PySem.Spec PyProof.Rows L2
section
variable {t : Pn07.Task} {x y : Int} {row : List Int}
theorem w32 {z : Int} (h : Pn07Neutral.whole32 z = true) : 0 ≤ z := by
  unfold Pn07Neutral.whole32 at h
  rw [Bool.and_eq_true] at h
  exact of_decide_eq_true h.1
theorem r32 {m : Nat} (h : Pn07Neutral.row32 row m = true) : row.length ≤ m ∧ ∀ z ∈ row, 0 ≤ z := by
  unfold Pn07Neutral.row32 at h
  rw [Bool.and_eq_true] at h
  exact ⟨of_decide_eq_true h.1, fun z hz => w32 (List.all_eq_true.mp h.2 z hz)⟩
theorem row_iV (h : ∀ z ∈ row, 0 ≤ z) : row.map V.int = (Pn07Neutral.nats row).map iV := by
  unfold Pn07Neutral.nats
  rw [List.map_map]
  exact List.map_congr_left fun z hz => nonneg_iV (h z hz)
theorem cut_tail {xs ys : List V} (k : Nat) (h : xs.length = k) : cutV (xs ++ ys) (some ((k : Nat) : Int)) none = ys := by
  unfold cutV
  rw [HT.sIx_nat, HT.sIx_none, List.length_append, h]
  have e : min k (k + ys.length) = k := by omega
  rw [e, Nat.add_sub_cancel_left, ← h, List.drop_left, List.take_length]
theorem cut_mid {xs ys zs : List V} : cutV (xs ++ (ys ++ zs)) (some ((xs.length : Nat) : Int)) (some ((xs.length + ys.length : Nat) : Int)) = ys := by
  unfold cutV
  rw [HT.sIx_nat, HT.sIx_nat, List.length_append, List.length_append]
  have e1 : min xs.length (xs.length + (ys.length + zs.length)) = xs.length := by omega
  have e2 : min (xs.length + ys.length) (xs.length + (ys.length + zs.length)) = xs.length + ys.length := by omega
  rw [e1, e2, List.drop_left, Nat.add_sub_cancel_left, List.take_left]
end
section
variable {P : Program} {w : World} {K : PySem.W.Frag} {mg : Str → Option Value} {base : Heap} {CA CH : Addr}
theorem scAnsOf : FnScope ["house", "call", "number"] ["house", "call"] (defScope sAnsOf) := ⟨rfl, rfl, rfl, by decide +kernel, rfl, by decide +kernel, by decide +kernel⟩
theorem ok_ansof {f fB fA fG fS fHo fFr fJ : Addr} {fd fdB fdA fdG fdS fdHo fdFr fdJ : FuncData} (F : Fun K "answer_of" "answer_of" sAnsOf f fd) (T : TxtC mg) (TH : TxtH K CH)
    (B : Mth P w K mg base CH "begins" 2 ["self", "facts", "wanted"] (spBegins CA CH) fB fdB) (A : Mth P w K mg base CH "act" 3 ["self", "needs", "bars", "row"] (spAct CA CH) fA fdA)
    (G : Mth P w K mg base CH "goal" 2 ["self", "wanted"] (spGoal CA CH) fG fdG) (Su : Mth P w K mg base CH "sure" 7 ["self", "state"] (spSure CA CH) fS fdS)
    (Ho : Mth P w K mg base CH "hope" 7 ["self", "state"] (spHope CA CH) fHo fdHo) (Fr : Mth P w K mg base CH "from_where" 7 ["self"] (spFrom CA CH) fFr fdFr) (Ju : Mth P w K mg base CH "judge" 7 ["self", "state", "row"] (spJudge CA CH) fJ fdJ) :
    FnOk P w K mg base CX0 8 f fd ["house", "call"] (spAnsOf CA CH) := by
  refine F.ok scAnsOf (fun vs H Q E h => ?_) (fun cdv A' outer s H vs Q E hr h => ?_)
  · obtain ⟨h, b, S, t, ws, c, rfl, _⟩ := h
    rfl
  · obtain ⟨h, b, S, t, ws, c, rfl, hh, wf, hb, hw, ha, k⟩ := h
    obtain ⟨u0, m0⟩ := T.c0
    obtain ⟨u1, m1⟩ := T.c1
    obtain ⟨u2, m2⟩ := T.c2
    obtain ⟨u3, m3⟩ := T.c3
    obtain ⟨u4, m4⟩ := T.c4
    obtain ⟨u5, m5⟩ := T.c5
    have hr2 : Room 2 _ := hr.mono (by decide)
    have hr3 : Room 3 _ := hr.mono (by decide)
    refine ⟨_, pss_cons (ps_set (i := 2) scAnsOf.nd rfl (Or.inl rfl) (pe_ix ix_list (pv 1) pe_int (fun _ _ => rfl)))
      (pss_cons (ps_if (pt_cmpR op_eq (pv 2) (pe_glob rfl m0 (v := .int 0) ⟨_, rfl⟩) (nomark _)) (pss_one (ps_ret (pe_meth (pv 0) TH.cl B.me B.ok hr2 B.bd .nil pass0 (pa_cons (pe_ix ix_list (pv 1) pe_int (fun _ _ => rfl)) (pa_cons (pe_ix ix_list (pv 1) pe_int (fun _ _ => rfl)) pa_nil))))) pss_nil)
      (pss_cons (ps_if (pt_cmpR op_eq (pv 2) (pe_glob rfl m1 (v := .int 1) ⟨_, rfl⟩) (nomark _)) (pss_one (ps_ret (pe_meth (pv 0) TH.cl A.me A.ok hr3 A.bd .nil pass0 (pa_cons (pe_ix ix_list (pv 1) pe_int (fun _ _ => rfl)) (pa_cons (pe_ix ix_list (pv 1) pe_int (fun _ _ => rfl)) (pa_cons (pe_slice sl_list (pv 1) (po_some pe_int) po_none) pa_nil)))))) pss_nil)
      (pss_cons (ps_if (pt_cmpR op_eq (pv 2) (pe_glob rfl m2 (v := .int 2) ⟨_, rfl⟩) (nomark _)) (pss_one (ps_ret (pe_meth (pv 0) TH.cl G.me G.ok hr2 G.bd .nil pass0 (pa_cons (pe_ix ix_list (pv 1) pe_int (fun _ _ => rfl)) pa_nil)))) pss_nil)
      (pss_cons (ps_if (pt_cmpR op_eq (pv 2) (pe_glob rfl m3 (v := .int 3) ⟨_, rfl⟩) (nomark _)) (pss_one (ps_ret (pe_meth (pv 0) TH.cl Su.me Su.ok hr Su.bd .nil pass0 (pa_cons (pe_ix ix_list (pv 1) pe_int (fun _ _ => rfl)) pa_nil)))) pss_nil)
      (pss_cons (ps_if (pt_cmpR op_eq (pv 2) (pe_glob rfl m4 (v := .int 4) ⟨_, rfl⟩) (nomark _)) (pss_one (ps_ret (pe_meth (pv 0) TH.cl Ho.me Ho.ok hr Ho.bd .nil pass0 (pa_cons (pe_ix ix_list (pv 1) pe_int (fun _ _ => rfl)) pa_nil)))) pss_nil)
      (pss_cons (ps_if (pt_cmpR op_eq (pv 2) (pe_glob rfl m5 (v := .int 5) ⟨_, rfl⟩) (nomark _)) (pss_one (ps_ret (pe_meth0 (pv 0) TH.cl Fr.me Fr.ok hr Fr.bd .nil pass0))) pss_nil)
      (pss_one (ps_ret (pe_meth (pv 0) TH.cl Ju.me Ju.ok hr Ju.bd .nil pass0 (pa_cons (pe_ix ix_list (pv 1) pe_int (fun _ _ => rfl)) (pa_cons (pe_slice sl_list (pv 1) (po_some pe_int) po_none) pa_nil)))))))))))
      , ?_⟩
    have g : ∀ (j : Nat) {x : Int}, ws[j]? = some x → atI (ws.map V.int) ((j : Nat) : Int) = some (V.int x) := fun j {x} e => atI_nat (by rw [List.getElem?_map, e]; rfl)
    obtain ⟨dx, la, S0, e1, _⟩ := id hh
    cases hw with
    | begins x y =>
      have ha : (Pn07Neutral.whole32 x && Pn07Neutral.whole32 y) = true := ha
      rw [Bool.and_eq_true] at ha
      refine ⟨_, rfl, b, _, _, _, rfl, rfl, SqL.of hb, g 0 rfl, _, rfl, rfl, _, rfl, ?_⟩
      refine ite_by (c' := true) rfl (fun _ => ?_) (fun z => nomatch z)
      refine ⟨_, rfl, h, dx, _, rfl, e1, hF_no _ _ (by decide +kernel) (by decide +kernel) (by decide +kernel), _, rfl, b, _, _, _, rfl, rfl, SqL.of hb, g 1 rfl, _, rfl, b, _, _, _, rfl, rfl, SqL.of hb, g 2 rfl, ?_⟩
      exact ⟨h, S, t, x.toNat, y.toNat, (by rw [← nonneg_iV (w32 ha.1), ← nonneg_iV (w32 ha.2)]; rfl), hh, k⟩
    | act x y row =>
      have ha : (Pn07Neutral.whole32 x && (Pn07Neutral.whole32 y && Pn07Neutral.row32 row 40)) = true := ha
      rw [Bool.and_eq_true, Bool.and_eq_true] at ha
      obtain ⟨hx, hy, hrow⟩ := ha
      obtain ⟨hl, hz⟩ := r32 hrow
      refine ⟨_, rfl, b, _, _, _, rfl, rfl, SqL.of hb, g 0 rfl, _, rfl, rfl, _, rfl, ?_⟩
      refine ite_by (c' := false) rfl (fun z => nomatch z) (fun _ => ?_)
      refine ⟨_, rfl, rfl, _, rfl, ?_⟩
      refine ite_by (c' := true) rfl (fun _ => ?_) (fun z => nomatch z)
      refine ⟨_, rfl, h, dx, _, rfl, e1, hF_no _ _ (by decide +kernel) (by decide +kernel) (by decide +kernel), _, rfl, b, _, _, _, rfl, rfl, SqL.of hb, g 1 rfl, _, rfl, b, _, _, _, rfl, rfl, SqL.of hb, g 2 rfl, _, rfl, _, rfl, b, _, rfl, SqL.of hb, fun ra hra => ?_⟩
      have n1 := same_new (o := .lst (cutV (([1, x, y, (row.length : Int)] ++ row).map V.int) (some 4) none)) hra
      have ecut : cutV (([1, x, y, (row.length : Int)] ++ row).map V.int) (some 4) none = (Pn07Neutral.nats row).map iV := by
        rw [List.map_append, ← row_iV hz]
        exact cut_tail 4 rfl
      refine ⟨h, ra, S, t, x.toNat, y.toNat, Pn07Neutral.nats row, (by rw [← nonneg_iV (w32 hx), ← nonneg_iV (w32 hy)]; rfl), hh.keep (fun b o _ e => n1 b o e), ?_, ?_, wf.few, ?_⟩
      · rw [upd_same]
        exact congrArg (fun z => some (HO.lst z)) ecut
      · unfold Pn07Neutral.nats
        rw [List.length_map]
        omega
      · intro H' S' q q1 q2 q3 q4 q5
        exact k H' S' q q1 (fun b z => (q2 b z).imp id n1.free) (fun b o e hb => q3 b o (n1 b o e) hb) (n1.free q4) q5
    | goal x =>
      have ha : Pn07Neutral.whole32 x = true := ha
      refine ⟨_, rfl, b, _, _, _, rfl, rfl, SqL.of hb, g 0 rfl, _, rfl, rfl, _, rfl, ?_⟩
      refine ite_by (c' := false) rfl (fun z => nomatch z) (fun _ => ?_)
      refine ⟨_, rfl, rfl, _, rfl, ?_⟩
      refine ite_by (c' := false) rfl (fun z => nomatch z) (fun _ => ?_)
      refine ⟨_, rfl, rfl, _, rfl, ?_⟩
      refine ite_by (c' := true) rfl (fun _ => ?_) (fun z => nomatch z)
      refine ⟨_, rfl, h, dx, _, rfl, e1, hF_no _ _ (by decide +kernel) (by decide +kernel) (by decide +kernel), _, rfl, b, _, _, _, rfl, rfl, SqL.of hb, g 1 rfl, ?_⟩
      exact ⟨h, S, t, x.toNat, (by rw [← nonneg_iV (w32 ha)]; rfl), hh, k⟩
    | sure x =>
      have ha : Pn07Neutral.whole32 x = true := ha
      refine ⟨_, rfl, b, _, _, _, rfl, rfl, SqL.of hb, g 0 rfl, _, rfl, rfl, _, rfl, ?_⟩
      refine ite_by (c' := false) rfl (fun z => nomatch z) (fun _ => ?_)
      refine ⟨_, rfl, rfl, _, rfl, ?_⟩
      refine ite_by (c' := false) rfl (fun z => nomatch z) (fun _ => ?_)
      refine ⟨_, rfl, rfl, _, rfl, ?_⟩
      refine ite_by (c' := false) rfl (fun z => nomatch z) (fun _ => ?_)
      refine ⟨_, rfl, rfl, _, rfl, ?_⟩
      refine ite_by (c' := true) rfl (fun _ => ?_) (fun z => nomatch z)
      refine ⟨_, rfl, h, dx, _, rfl, e1, hF_no _ _ (by decide +kernel) (by decide +kernel) (by decide +kernel), _, rfl, b, _, _, _, rfl, rfl, SqL.of hb, g 1 rfl, ?_⟩
      exact ⟨h, S, t, x.toNat, (by rw [← nonneg_iV (w32 ha)]; rfl), hh, wf, k⟩
    | hope x =>
      have ha : Pn07Neutral.whole32 x = true := ha
      refine ⟨_, rfl, b, _, _, _, rfl, rfl, SqL.of hb, g 0 rfl, _, rfl, rfl, _, rfl, ?_⟩
      refine ite_by (c' := false) rfl (fun z => nomatch z) (fun _ => ?_)
      refine ⟨_, rfl, rfl, _, rfl, ?_⟩
      refine ite_by (c' := false) rfl (fun z => nomatch z) (fun _ => ?_)
      refine ⟨_, rfl, rfl, _, rfl, ?_⟩
      refine ite_by (c' := false) rfl (fun z => nomatch z) (fun _ => ?_)
      refine ⟨_, rfl, rfl, _, rfl, ?_⟩
      refine ite_by (c' := false) rfl (fun z => nomatch z) (fun _ => ?_)
      refine ⟨_, rfl, rfl, _, rfl, ?_⟩
      refine ite_by (c' := true) rfl (fun _ => ?_) (fun z => nomatch z)
      refine ⟨_, rfl, h, dx, _, rfl, e1, hF_no _ _ (by decide +kernel) (by decide +kernel) (by decide +kernel), _, rfl, b, _, _, _, rfl, rfl, SqL.of hb, g 1 rfl, ?_⟩
      exact ⟨h, S, t, x.toNat, (by rw [← nonneg_iV (w32 ha)]; rfl), hh, wf, k⟩
    | frm =>
      refine ⟨_, rfl, b, _, _, _, rfl, rfl, SqL.of hb, g 0 rfl, _, rfl, rfl, _, rfl, ?_⟩
      refine ite_by (c' := false) rfl (fun z => nomatch z) (fun _ => ?_)
      refine ⟨_, rfl, rfl, _, rfl, ?_⟩
      refine ite_by (c' := false) rfl (fun z => nomatch z) (fun _ => ?_)
      refine ⟨_, rfl, rfl, _, rfl, ?_⟩
      refine ite_by (c' := false) rfl (fun z => nomatch z) (fun _ => ?_)
      refine ⟨_, rfl, rfl, _, rfl, ?_⟩
      refine ite_by (c' := false) rfl (fun z => nomatch z) (fun _ => ?_)
      refine ⟨_, rfl, rfl, _, rfl, ?_⟩
      refine ite_by (c' := false) rfl (fun z => nomatch z) (fun _ => ?_)
      refine ⟨_, rfl, rfl, _, rfl, ?_⟩
      refine ite_by (c' := true) rfl (fun _ => ?_) (fun z => nomatch z)
      refine ⟨_, rfl, h, dx, _, rfl, e1, hF_no _ _ (by decide +kernel) (by decide +kernel) (by decide +kernel), ?_⟩
      exact ⟨h, S, t, rfl, hh, wf, k⟩
    | judge x row =>
      have ha : (Pn07Neutral.whole32 x && Pn07Neutral.row32 row 40) = true := ha
      rw [Bool.and_eq_true] at ha
      obtain ⟨hx, hrow⟩ := ha
      obtain ⟨hl, hz⟩ := r32 hrow
      refine ⟨_, rfl, b, _, _, _, rfl, rfl, SqL.of hb, g 0 rfl, _, rfl, rfl, _, rfl, ?_⟩
      refine ite_by (c' := false) rfl (fun z => nomatch z) (fun _ => ?_)
      refine ⟨_, rfl, rfl, _, rfl, ?_⟩
      refine ite_by (c' := false) rfl (fun z => nomatch z) (fun _ => ?_)
      refine ⟨_, rfl, rfl, _, rfl, ?_⟩
      refine ite_by (c' := false) rfl (fun z => nomatch z) (fun _ => ?_)
      refine ⟨_, rfl, rfl, _, rfl, ?_⟩
      refine ite_by (c' := false) rfl (fun z => nomatch z) (fun _ => ?_)
      refine ⟨_, rfl, rfl, _, rfl, ?_⟩
      refine ite_by (c' := false) rfl (fun z => nomatch z) (fun _ => ?_)
      refine ⟨_, rfl, rfl, _, rfl, ?_⟩
      refine ite_by (c' := false) rfl (fun z => nomatch z) (fun _ => ?_)
      refine ⟨_, rfl, h, dx, _, rfl, e1, hF_no _ _ (by decide +kernel) (by decide +kernel) (by decide +kernel), _, rfl, b, _, _, _, rfl, rfl, SqL.of hb, g 1 rfl, _, rfl, _, rfl, b, _, rfl, SqL.of hb, fun ra hra => ?_⟩
      have n1 := same_new (o := .lst (cutV (([6, x, (row.length : Int)] ++ row).map V.int) (some 3) none)) hra
      have ecut : cutV (([6, x, (row.length : Int)] ++ row).map V.int) (some 3) none = (Pn07Neutral.nats row).map iV := by
        rw [List.map_append, ← row_iV hz]
        exact cut_tail 3 rfl
      refine ⟨h, ra, S, t, x.toNat, Pn07Neutral.nats row, (by rw [← nonneg_iV (w32 hx)]; rfl), hh.keep (fun b o _ e => n1 b o e), wf, ?_, ?_, ?_⟩
      · rw [upd_same]
        exact congrArg (fun z => some (HO.lst z)) ecut
      · unfold Pn07Neutral.nats
        rw [List.length_map]
        omega
      · intro H' S' q q1 q2 q3 q4 q5
        exact k H' S' q q1 (fun b z => (q2 b z).imp id n1.free) (fun b o e hb => q3 b o (n1 b o e) hb) (n1.free q4) q5
end
end Sh
set_option Elab.async false
set_option maxRecDepth 100000
set_option maxHeartbeats 2000000
namespace Sh
open PySem PySem.Spec PyProof.Rows L2
theorem told_cons {S : Type} (step : S → List (List Int) → S × List Int) (s : S) (c : List (List Int)) (cs : List (List (List Int))) :
    PyFlat.told (PyFlat.played step s (c :: cs)) = (((step s c).2.length : Int) :: (step s c).2) ++ PyFlat.told (PyFlat.played step (step s c).1 cs) := by
  show ((step s c).2 :: PyFlat.played step (step s c).1 cs).flatMap (fun a => (a.length : Int) :: a) = _
  rw [List.flatMap_cons]
  rfl
theorem wf_neutral {t : Pn07.Task} (w : Wf t) (c : List (List Int)) : Wf (Pn07Neutral.step ⟨t⟩ c).1.task := by
  unfold Pn07Neutral.step
  split
  · exact w
  · exact wf_step w _
def spAns (K : PySem.W.Frag) : Sp := fun vs H Q _ => ∃ (a : Addr) (L : List Int), vs = [.ref a] ∧ SqL K H a (L.map V.int) ∧ PyPn07.answers_asked L = true ∧
  ∀ (H' : Hp) (p : Addr), H' p = some (.lst ((PyPn07.answers L).map V.int)) → Q (.ref p) H'
section
variable {P : Program} {w : World} {K : PySem.W.Frag} {mg : Str → Option Value} {base : Heap} {CA CH : Addr}
theorem scAns : FnScope ["calls", "house", "given", "at", "end", "answer"] ["calls"] (defScope sAns) := ⟨rfl, rfl, rfl, by decide +kernel, rfl, by decide +kernel, by decide +kernel⟩
theorem ok_ans {f fE fO fI : Addr} {fd fdE fdO fdI : FuncData} (F : Fun K "answers" "answers" sAns f fd) (En : Cal P w K mg base "end_of_call" 1 ["calls", "at"] (spEnd K) fE fdE) (An : Cal P w K mg base "answer_of" 8 ["house", "call"] (spAnsOf CA CH) fO fdO)
    (MH : Mk K CH fI) (GI : FnOk P w K mg base CX0 1 fI fdI ["self"] (spHInit CH)) (bI : Binds K fdI ["self"] []) (mH : mg "House" = some (.ref CH)) (mL : mg "len" = none) :
    FnOk P w K mg base CX0 9 f fd ["calls"] (spAns K) := by
  refine F.ok scAns (fun vs H Q E h => ?_) (fun cdv A outer s H vs Q E hr h => ?_)
  · obtain ⟨a, L, rfl, _⟩ := h
    rfl
  · obtain ⟨a, L, rfl, hS, hask, k⟩ := h
    have hr1 : Room 1 _ := hr.mono (by decide)
    have hr2 : Room 2 _ := hr.mono (by decide)
    refine ⟨_, pss_cons (ps_set (i := 1) scAns.nd rfl (Or.inl rfl) (pe_make0 MH GI hr2 rfl mH bI .nil pass0))
      (pss_cons (ps_set (i := 2) scAns.nd rfl (Or.inl rfl) (pe_lst pa_nil))
      (pss_cons (ps_set (i := 3) scAns.nd rfl (Or.inl rfl) pe_int)
      (pss_cons (ps_while PassesOwn.never (pt_cmpR op_lt (pv 3) (pe_callB call_len_seq (by rfl) mL PySem.boot_len (pa_cons (pv 0) pa_nil)) (nomark _))
        (pss_cons (ps_set (i := 4) scAns.nd rfl (Or.inl rfl) (pe_call En.ok hr1 rfl En.gl En.kp En.bd .nil pass0 (pa_cons (pv 0) (pa_cons (pv 3) pa_nil))))
        (pss_cons (ps_set (i := 5) scAns.nd rfl (Or.inl rfl) (pe_call An.ok hr rfl An.gl An.kp An.bd .nil pass0 (pa_cons (pv 1) (pa_cons (pe_slice sl_list (pv 0) (po_some (pv 3)) (po_some (pv 4))) pa_nil))))
        (pss_cons (ps_expr (pe_bm PySem.F.plainAttrs_list PySem.F.slot_list_append PySem.F.type_list_append mt_append (pv 2) (pa_cons (pe_callB call_len_seq (by rfl) mL PySem.boot_len (pa_cons (pv 5) pa_nil)) pa_nil)))
        (pss_cons (ps_expr (pe_bm PySem.F.plainAttrs_list PySem.F.slot_list_extend PySem.F.type_list_extend mt_extend (pv 2) (pa_cons (pv 5) pa_nil)))
        (pss_one (ps_set (i := 3) scAns.nd rfl (Or.inl rfl) (pv 4))))))))
      (pss_one (ps_ret (pv 2)))))), ?_⟩
    obtain ⟨cs0, hleft, h60, hask1, hdue, hshort⟩ := request hask
    intro x dx hx hdx hne
    refine ⟨x, dx, rfl, upd_same, fun H1 la hla hx1 hla1 kp1 => ⟨rfl, ?_⟩⟩
    have s01 : Same H H1 := Same.made hx hdx kp1
    have hla0 : H la = none := by
      by_cases z : la = x
      · rw [z]; exact hx
      · rw [upd_ne z] at hla
        by_cases y : la = dx
        · rw [y]; exact hdx
        · rw [upd_ne y] at hla
          exact hla
    have hxla : x ≠ la := ne_of hx1 hla1 (by intro z; cases z)
    refine ⟨Nat.zero_le _, fun g hg => ?_⟩
    have hg0 : H g = none := s01.free hg
    have n1 := same_new (o := .lst []) hg
    refine ⟨fun m σ H' => ∃ (v4 v5 : Option V) (pre rest : List Int) (cs : List (List (List Int))) (t : Pn07.Task) (S : Addr → Prop) (out : List Int), σ = [some (.ref a), some (.ref x), some (.ref g), some (iV pre.length), v4, v5] ∧ L = pre ++ rest ∧ Left rest cs ∧
      (∀ c ∈ cs, Pn07Neutral.asked1 c = true) ∧ HouseAt CA CH S H' x t ∧ Wf t ∧ (∀ b, S b → H b = none) ∧ ¬ S g ∧ H' g = some (.lst (out.map V.int)) ∧ Same H H' ∧ out ++ PyFlat.told (PyFlat.played Pn07Neutral.step ⟨t⟩ cs) = PyPn07.answers L ∧ m = cs.length, ⟨_, none, none, [], L, cs0, Pn07.init.task, fun b => b = x ∨ b = la, [], rfl, rfl, hleft,
      fun c hc => hask1 c hc, ⟨dx, la, fun _ => False, n1 _ _ hx1, .inl rfl, .inr rfl, fun _ z => z.elim, id, id, [], n1 _ _ hla1, .nil⟩, wf_init, ?_, ?_, upd_same, s01.trans n1, hdue.symm, rfl⟩, ?_⟩
    · rintro b (z | z)
      · rw [z]; exact hx
      · rw [z]; exact hla0
    · rintro (z | z)
      · rw [z, hx1] at hg; cases hg
      · rw [z, hla1] at hg; cases hg
    · rintro m σ H' ⟨v4, v5, pre, rest, cs, t, S, out, rfl, rfl, hlf, hcs, hh, wf, hSn, hSg, hgl, hs, hout, rfl⟩
      refine ⟨_, rfl, _, rfl, a, _, rfl, .inl (hs.seq hS), _, _, rfl, rfl, _, rfl, ?_⟩
      refine ite_by (c' := decide (0 < rest.length)) (by rw [List.length_map, List.length_append]; exact decide_eq_decide.mpr (by omega)) (fun hz => ?_) (fun hz => ?_)
      · cases hlf with
        | nil => simp at hz
        | @cons c ws l cs' hw hl' =>
          have hac := hcs c (List.mem_cons_self ..)
          refine ⟨fun σ' H2 => ∃ m', m' < (c :: cs').length ∧ ∃ (v4 v5 : Option V) (pre' rest' : List Int) (cs'' : List (List (List Int))) (t : Pn07.Task) (S : Addr → Prop) (out : List Int), σ' = [some (.ref a), some (.ref x), some (.ref g), some (iV pre'.length), v4, v5] ∧ pre ++ (ws ++ l) = pre' ++ rest' ∧ Left rest' cs'' ∧
            (∀ c ∈ cs'', Pn07Neutral.asked1 c = true) ∧ HouseAt CA CH S H2 x t ∧ Wf t ∧ (∀ b, S b → H b = none) ∧ ¬ S g ∧ H2 g = some (.lst (out.map V.int)) ∧ Same H H2 ∧ out ++ PyFlat.told (PyFlat.played Pn07Neutral.step ⟨t⟩ cs'') = PyPn07.answers (pre ++ (ws ++ l)) ∧ m' = cs''.length, fun _ _ q => q, ?_⟩
          -- end = end_of_call(calls, at)
          refine ⟨_, rfl, _, rfl, a, _, pre, ws, l, c, rfl, hs.seq hS, rfl, hw, ?_⟩
          -- answer = answer_of(house, calls[at:end])
          refine ⟨_, rfl, _, rfl, _, rfl, _, rfl, _, rfl, _, rfl, a, _, rfl, hs.seq hS, fun b hb => ?_⟩
          have ecut : cutV ((pre ++ (ws ++ l)).map V.int) (some ((pre.length : Nat) : Int)) (some ((pre.length + ws.length : Nat) : Int)) = ws.map V.int := by
            rw [List.map_append, List.map_append]
            have := cut_mid (xs := pre.map V.int) (ys := ws.map V.int) (zs := l.map V.int)
            rw [List.length_map, List.length_map] at this
            exact this
          rw [ecut]
          have n2 := same_new (o := .lst (ws.map V.int)) hb
          have hs2 := hs.trans n2
          have hgl2 := n2 _ _ hgl
          refine ⟨x, b, S, t, ws, c, rfl, hh.keep (fun b o _ e => n2 b o e), wf, upd_same, hw, hac, fun H3 S3 q hh3 hS3 kp3 hq hq3 => ?_⟩
          have hSg3 : ¬ S3 g := fun z => by
            rcases hS3 g z with y | y
            · exact hSg y
            · rw [hgl2] at y; cases y
          have hgl3 := kp3 g _ hgl2 hSg
          have hS3n : ∀ b, S3 b → H b = none := fun b z => (hS3 b z).elim (hSn b) hs2.free
          have hs3 : Same H H3 := fun b o e => kp3 b o (hs2 b o e) fun z => by rw [hSn b z] at e; cases e
          have hqg : q ≠ g := fun z => by rw [z, hgl2] at hq; cases hq
          rw [told_cons] at hout
          have hlen : out.length + (1 + (Pn07Neutral.step ⟨t⟩ c).2.length) ≤ 10000000 := by
            have := congrArg List.length hout
            rw [List.length_append, List.length_append, List.length_cons] at this
            omega
          -- given.append(len(answer))
          refine ⟨_, rfl, .inl ⟨rfl, _, SqL.of hgl3⟩, _, rfl, q, _, rfl, .inl (SqL.of hq3), g, _, _, rfl, rfl, hgl3, (by rw [List.length_map, show sizeLine = 16777216 from rfl]; omega), ?_⟩
          -- given.extend(answer)
          refine ⟨_, rfl, .inl ⟨rfl, _, SqL.of upd_same⟩, _, rfl, g, q, _, _, rfl, rfl, upd_same, (by rw [upd_ne hqg]; exact hq3), (by rw [List.length_append, List.length_map, List.length_map, List.length_singleton, show sizeLine = 16777216 from rfl]; omega), ?_⟩
          -- at = end
          refine ⟨_, rfl, cs'.length, Nat.lt_succ_self _, some (iV (pre.length + ws.length)), some (.ref q), pre ++ ws, l, cs', (Pn07Neutral.step ⟨t⟩ c).1.task, S3, out ++ (((Pn07Neutral.step ⟨t⟩ c).2.length : Int) :: (Pn07Neutral.step ⟨t⟩ c).2), ?_, (List.append_assoc ..).symm, hl', fun d hd => hcs d (List.mem_cons_of_mem _ hd), ?_, wf_neutral wf c, hS3n, hSg3, ?_, ?_, ?_, rfl⟩
          · rw [List.length_append]
            rfl
          · exact hh3.keep fun b o z e => by
              have : b ≠ g := fun y => hSg3 (by rw [← y]; exact z)
              rw [upd_ne this, upd_ne this]
              exact e
          · rw [upd_same, List.map_append, List.map_cons, List.length_map, List.append_assoc]
            rfl
          · exact same_into (same_into hs3 hg0) hg0
          · rw [List.append_assoc]
            exact hout
      · have hz := of_decide_eq_false hz
        have hr0 : rest = [] := List.length_eq_zero_iff.mp (by omega)
        subst hr0
        have hcs0 : cs = [] := by
          generalize hq : ([] : List Int) = z at hlf
          cases hlf with
          | nil => rfl
          | cons hw _ => cases hw <;> cases hq
        subst hcs0
        have hout : out ++ [] = PyPn07.answers (pre ++ []) := hout
        rw [List.append_nil] at hout
        refine ⟨_, rfl, k H' g ?_⟩
        rw [hgl, hout]
end
end Sh
set_option Elab.async false
set_option maxRecDepth 100000
set_option maxHeartbeats 2000000
namespace Sh
open PySem PySem.Spec PyProof.Rows L2
theorem all_mk {P : Program} {w : World} {K : PySem.W.Frag} {h : Heap} {mg : Str → Option Value} {fa CA CH f0 f1 f2 f3 f4 f5 f6 f7 f8 f9 f10 f11 f12 f13 f14 f15 f16 f17 f18 f19 f20 f21 f22 f23 f24 f25 f26 f27 f28 f29 f30 f31 f32 f33 f34 f35 f36 f37 : Addr} (X : K.In h) (G : h.Ns mainGlobals mg) (hfa : mg "answers" = some (.ref fa))
    {od0 an0 od1 an1 od2 an2 od3 an3 od4 an4 od5 an5 od6 an6 od7 an7 od8 an8 od9 an9 od10 an10 od11 an11 od12 an12 od13 an13 od14 an14 od15 an15 od16 an16 od17 an17 od18 an18 od19 an19 od20 an20 od21 an21 od22 an22 od23 an23 od24 an24 od25 an25 od26 an26 od27 an27 od28 an28 od29 an29 od30 an30 od31 an31 od32 an32 od33 an33 od34 an34 od35 an35 od36 an36 od37 an37 : Option Addr} {sl0 sl1 sl2 sl3 sl4 sl5 sl6 sl7 sl8 sl9 sl10 sl11 sl12 sl13 sl14 sl15 sl16 sl17 sl18 sl19 sl20 sl21 sl22 sl23 sl24 sl25 sl26 sl27 sl28 sl29 sl30 sl31 sl32 sl33 sl34 sl35 sl36 sl37 : Array (Option Value)} {oc0 kV0 dc0 pm0 cd0 ct0 oc1 kV1 dc1 pm1 cd1 ct1 oc2 kV2 dc2 pm2 cd2 ct2 oc3 kV3 dc3 pm3 cd3 ct3 oc4 kV4 dc4 pm4 cd4 ct4 oc5 kV5 dc5 pm5 cd5 ct5 oc6 kV6 dc6 pm6 cd6 ct6 oc7 kV7 dc7 pm7 cd7 ct7 oc8 kV8 dc8 pm8 cd8 ct8 oc9 kV9 dc9 pm9 cd9 ct9 oc10 kV10 dc10 pm10 cd10 ct10 oc11 kV11 dc11 pm11 cd11 ct11 oc12 kV12 dc12 pm12 cd12 ct12 oc13 kV13 dc13 pm13 cd13 ct13 oc14 kV14 dc14 pm14 cd14 ct14 oc15 kV15 dc15 pm15 cd15 ct15 oc16 kV16 dc16 pm16 cd16 ct16 oc17 kV17 dc17 pm17 cd17 ct17 oc18 kV18 dc18 pm18 cd18 ct18 oc19 kV19 dc19 pm19 cd19 ct19 oc20 kV20 dc20 pm20 cd20 ct20 oc21 kV21 dc21 pm21 cd21 ct21 oc22 kV22 dc22 pm22 cd22 ct22 oc23 kV23 dc23 pm23 cd23 ct23 oc24 kV24 dc24 pm24 cd24 ct24 oc25 kV25 dc25 pm25 cd25 ct25 oc26 kV26 dc26 pm26 cd26 ct26 oc27 kV27 dc27 pm27 cd27 ct27 oc28 kV28 dc28 pm28 cd28 ct28 oc29 kV29 dc29 pm29 cd29 ct29 oc30 kV30 dc30 pm30 cd30 ct30 oc31 kV31 dc31 pm31 cd31 ct31 oc32 kV32 dc32 pm32 cd32 ct32 oc33 kV33 dc33 pm33 cd33 ct33 oc34 kV34 dc34 pm34 cd34 ct34 oc35 kV35 dc35 pm35 cd35 ct35 oc36 kV36 dc36 pm36 cd36 ct36 oc37 kV37 dc37 pm37 cd37 ct37 : Value} {t_BEGINS t_ACT t_GOAL t_SURE t_HOPE t_FROM t_JUDGE t_MOST_FACTS t_MOST_ACTS t_MOST_OUTCOMES : Tok}
    (aaCA : PySem.W.nsIn K mainGlobals "Act" = some (some (.ref CA)))
    (pgCA : PySem.W.plainGet K CA Str.empty = true)
    (hdCA : PySem.W.hasDictIn K CA = true)
    (poCA : PySem.W.plainOver K CA = true)
    (saCA : PySem.W.findIn K (.ref CA) "__setattr__" = some (some (.builtin "object.__setattr__")))
    (mkCA : PySem.W.makesIn K CA = true)
    (kcCA : PySem.W.keepIn K (.ref CA) = true)
    (nfCA_needs : PySem.W.findIn K (.ref CA) "needs" = some none)
    (nfCA_bars : PySem.W.findIn K (.ref CA) "bars" = some none)
    (nfCA_outcomes : PySem.W.findIn K (.ref CA) "outcomes" = some none)
    (aaCH : PySem.W.nsIn K mainGlobals "House" = some (some (.ref CH)))
    (pgCH : PySem.W.plainGet K CH Str.empty = true)
    (hdCH : PySem.W.hasDictIn K CH = true)
    (poCH : PySem.W.plainOver K CH = true)
    (saCH : PySem.W.findIn K (.ref CH) "__setattr__" = some (some (.builtin "object.__setattr__")))
    (mkCH : PySem.W.makesIn K CH = true)
    (kcCH : PySem.W.keepIn K (.ref CH) = true)
    (nfCH_facts : PySem.W.findIn K (.ref CH) "facts" = some none)
    (nfCH_wanted : PySem.W.findIn K (.ref CH) "wanted" = some none)
    (nfCH_acts : PySem.W.findIn K (.ref CH) "acts" = some none)
    (a0 : PySem.W.findIn K (.ref CA) "__init__" = some (some (.ref f0)))
    (i0 : PySem.W.isFn K (.ref f0) = true)
    (l0 : K.lookup f0 = some ⟨oc0, od0, .func (PySem.W.fnOf "__init__" "Act.__init__" (defArgs sAInit) (defBody sAInit) (defScope sAInit) .none kV0 dc0 pm0 an0 cd0 ct0), sl0⟩)
    (c0 : PySem.W.codeIn K cd0 "Act.__init__" = true)
    (k0 : PySem.W.keepIn K (.ref f0) = true)
    (a1 : PySem.W.findIn K (.ref CA) "may_be_done" = some (some (.ref f1)))
    (i1 : PySem.W.isFn K (.ref f1) = true)
    (l1 : K.lookup f1 = some ⟨oc1, od1, .func (PySem.W.fnOf "may_be_done" "Act.may_be_done" (defArgs sMay) (defBody sMay) (defScope sMay) .none kV1 dc1 pm1 an1 cd1 ct1), sl1⟩)
    (c1 : PySem.W.codeIn K cd1 "Act.may_be_done" = true)
    (k1 : PySem.W.keepIn K (.ref f1) = true)
    (a2 : PySem.W.findIn K (.ref CA) "leads_to" = some (some (.ref f2)))
    (i2 : PySem.W.isFn K (.ref f2) = true)
    (l2 : K.lookup f2 = some ⟨oc2, od2, .func (PySem.W.fnOf "leads_to" "Act.leads_to" (defArgs sLeads) (defBody sLeads) (defScope sLeads) .none kV2 dc2 pm2 an2 cd2 ct2), sl2⟩)
    (c2 : PySem.W.codeIn K cd2 "Act.leads_to" = true)
    (k2 : PySem.W.keepIn K (.ref f2) = true)
    (a3 : PySem.W.findIn K (.ref CH) "__init__" = some (some (.ref f3)))
    (i3 : PySem.W.isFn K (.ref f3) = true)
    (l3 : K.lookup f3 = some ⟨oc3, od3, .func (PySem.W.fnOf "__init__" "House.__init__" (defArgs sHInit) (defBody sHInit) (defScope sHInit) .none kV3 dc3 pm3 an3 cd3 ct3), sl3⟩)
    (c3 : PySem.W.codeIn K cd3 "House.__init__" = true)
    (k3 : PySem.W.keepIn K (.ref f3) = true)
    (a4 : PySem.W.findIn K (.ref CH) "begins" = some (some (.ref f4)))
    (i4 : PySem.W.isFn K (.ref f4) = true)
    (l4 : K.lookup f4 = some ⟨oc4, od4, .func (PySem.W.fnOf "begins" "House.begins" (defArgs sBegins) (defBody sBegins) (defScope sBegins) .none kV4 dc4 pm4 an4 cd4 ct4), sl4⟩)
    (c4 : PySem.W.codeIn K cd4 "House.begins" = true)
    (k4 : PySem.W.keepIn K (.ref f4) = true)
    (a5 : PySem.W.findIn K (.ref CH) "act" = some (some (.ref f5)))
    (i5 : PySem.W.isFn K (.ref f5) = true)
    (l5 : K.lookup f5 = some ⟨oc5, od5, .func (PySem.W.fnOf "act" "House.act" (defArgs sAct) (defBody sAct) (defScope sAct) .none kV5 dc5 pm5 an5 cd5 ct5), sl5⟩)
    (c5 : PySem.W.codeIn K cd5 "House.act" = true)
    (k5 : PySem.W.keepIn K (.ref f5) = true)
    (a6 : PySem.W.findIn K (.ref CH) "goal" = some (some (.ref f6)))
    (i6 : PySem.W.isFn K (.ref f6) = true)
    (l6 : K.lookup f6 = some ⟨oc6, od6, .func (PySem.W.fnOf "goal" "House.goal" (defArgs sGoal) (defBody sGoal) (defScope sGoal) .none kV6 dc6 pm6 an6 cd6 ct6), sl6⟩)
    (c6 : PySem.W.codeIn K cd6 "House.goal" = true)
    (k6 : PySem.W.keepIn K (.ref f6) = true)
    (a7 : PySem.W.findIn K (.ref CH) "all_ways" = some (some (.ref f7)))
    (i7 : PySem.W.isFn K (.ref f7) = true)
    (l7 : K.lookup f7 = some ⟨oc7, od7, .func (PySem.W.fnOf "all_ways" "House.all_ways" (defArgs sAllWays) (defBody sAllWays) (defScope sAllWays) .none kV7 dc7 pm7 an7 cd7 ct7), sl7⟩)
    (c7 : PySem.W.codeIn K cd7 "House.all_ways" = true)
    (k7 : PySem.W.keepIn K (.ref f7) = true)
    (a8 : PySem.W.findIn K (.ref CH) "sure" = some (some (.ref f8)))
    (i8 : PySem.W.isFn K (.ref f8) = true)
    (l8 : K.lookup f8 = some ⟨oc8, od8, .func (PySem.W.fnOf "sure" "House.sure" (defArgs sSure) (defBody sSure) (defScope sSure) .none kV8 dc8 pm8 an8 cd8 ct8), sl8⟩)
    (c8 : PySem.W.codeIn K cd8 "House.sure" = true)
    (k8 : PySem.W.keepIn K (.ref f8) = true)
    (a9 : PySem.W.findIn K (.ref CH) "hope" = some (some (.ref f9)))
    (i9 : PySem.W.isFn K (.ref f9) = true)
    (l9 : K.lookup f9 = some ⟨oc9, od9, .func (PySem.W.fnOf "hope" "House.hope" (defArgs sHope) (defBody sHope) (defScope sHope) .none kV9 dc9 pm9 an9 cd9 ct9), sl9⟩)
    (c9 : PySem.W.codeIn K cd9 "House.hope" = true)
    (k9 : PySem.W.keepIn K (.ref f9) = true)
    (a10 : PySem.W.findIn K (.ref CH) "from_where" = some (some (.ref f10)))
    (i10 : PySem.W.isFn K (.ref f10) = true)
    (l10 : K.lookup f10 = some ⟨oc10, od10, .func (PySem.W.fnOf "from_where" "House.from_where" (defArgs sFrom) (defBody sFrom) (defScope sFrom) .none kV10 dc10 pm10 an10 cd10 ct10), sl10⟩)
    (c10 : PySem.W.codeIn K cd10 "House.from_where" = true)
    (k10 : PySem.W.keepIn K (.ref f10) = true)
    (a11 : PySem.W.findIn K (.ref CH) "judge" = some (some (.ref f11)))
    (i11 : PySem.W.isFn K (.ref f11) = true)
    (l11 : K.lookup f11 = some ⟨oc11, od11, .func (PySem.W.fnOf "judge" "House.judge" (defArgs sJudge) (defBody sJudge) (defScope sJudge) .none kV11 dc11 pm11 an11 cd11 ct11), sl11⟩)
    (c11 : PySem.W.codeIn K cd11 "House.judge" = true)
    (k11 : PySem.W.keepIn K (.ref f11) = true)
    (a12 : PySem.W.nsIn K mainGlobals "is_as_wanted" = some (some (.ref f12)))
    (l12 : K.lookup f12 = some ⟨oc12, od12, .func (PySem.W.fnOf "is_as_wanted" "is_as_wanted" (defArgs sWanted) (defBody sWanted) (defScope sWanted) .none kV12 dc12 pm12 an12 cd12 ct12), sl12⟩)
    (c12 : PySem.W.codeIn K cd12 "is_as_wanted" = true)
    (k12 : PySem.W.keepIn K (.ref f12) = true)
    (a13 : PySem.W.nsIn K mainGlobals "ways_in" = some (some (.ref f13)))
    (l13 : K.lookup f13 = some ⟨oc13, od13, .func (PySem.W.fnOf "ways_in" "ways_in" (defArgs sWaysIn) (defBody sWaysIn) (defScope sWaysIn) .none kV13 dc13 pm13 an13 cd13 ct13), sl13⟩)
    (c13 : PySem.W.codeIn K cd13 "ways_in" = true)
    (k13 : PySem.W.keepIn K (.ref f13) = true)
    (a14 : PySem.W.nsIn K mainGlobals "ways_of" = some (some (.ref f14)))
    (l14 : K.lookup f14 = some ⟨oc14, od14, .func (PySem.W.fnOf "ways_of" "ways_of" (defArgs sWaysOf) (defBody sWaysOf) (defScope sWaysOf) .none kV14 dc14 pm14 an14 cd14 ct14), sl14⟩)
    (c14 : PySem.W.codeIn K cd14 "ways_of" = true)
    (k14 : PySem.W.keepIn K (.ref f14) = true)
    (a15 : PySem.W.nsIn K mainGlobals "is_up_to" = some (some (.ref f15)))
    (l15 : K.lookup f15 = some ⟨oc15, od15, .func (PySem.W.fnOf "is_up_to" "is_up_to" (defArgs sUpTo) (defBody sUpTo) (defScope sUpTo) .none kV15 dc15 pm15 an15 cd15 ct15), sl15⟩)
    (c15 : PySem.W.codeIn K cd15 "is_up_to" = true)
    (k15 : PySem.W.keepIn K (.ref f15) = true)
    (a16 : PySem.W.nsIn K mainGlobals "all_up_to" = some (some (.ref f16)))
    (l16 : K.lookup f16 = some ⟨oc16, od16, .func (PySem.W.fnOf "all_up_to" "all_up_to" (defArgs sAllUp) (defBody sAllUp) (defScope sAllUp) .none kV16 dc16 pm16 an16 cd16 ct16), sl16⟩)
    (c16 : PySem.W.codeIn K cd16 "all_up_to" = true)
    (k16 : PySem.W.keepIn K (.ref f16) = true)
    (a17 : PySem.W.nsIn K mainGlobals "any_up_to" = some (some (.ref f17)))
    (l17 : K.lookup f17 = some ⟨oc17, od17, .func (PySem.W.fnOf "any_up_to" "any_up_to" (defArgs sAnyUp) (defBody sAnyUp) (defScope sAnyUp) .none kV17 dc17 pm17 an17 cd17 ct17), sl17⟩)
    (c17 : PySem.W.codeIn K cd17 "any_up_to" = true)
    (k17 : PySem.W.keepIn K (.ref f17) = true)
    (a18 : PySem.W.nsIn K mainGlobals "lowest_act" = some (some (.ref f18)))
    (l18 : K.lookup f18 = some ⟨oc18, od18, .func (PySem.W.fnOf "lowest_act" "lowest_act" (defArgs sLow) (defBody sLow) (defScope sLow) .none kV18 dc18 pm18 an18 cd18 ct18), sl18⟩)
    (c18 : PySem.W.codeIn K cd18 "lowest_act" = true)
    (k18 : PySem.W.keepIn K (.ref f18) = true)
    (a19 : PySem.W.nsIn K mainGlobals "states_above" = some (some (.ref f19)))
    (l19 : K.lookup f19 = some ⟨oc19, od19, .func (PySem.W.fnOf "states_above" "states_above" (defArgs sAbove) (defBody sAbove) (defScope sAbove) .none kV19 dc19 pm19 an19 cd19 ct19), sl19⟩)
    (c19 : PySem.W.codeIn K cd19 "states_above" = true)
    (k19 : PySem.W.keepIn K (.ref f19) = true)
    (a20 : PySem.W.nsIn K mainGlobals "levels_of" = some (some (.ref f20)))
    (l20 : K.lookup f20 = some ⟨oc20, od20, .func (PySem.W.fnOf "levels_of" "levels_of" (defArgs sLevels) (defBody sLevels) (defScope sLevels) .none kV20 dc20 pm20 an20 cd20 ct20), sl20⟩)
    (c20 : PySem.W.codeIn K cd20 "levels_of" = true)
    (k20 : PySem.W.keepIn K (.ref f20) = true)
    (a21 : PySem.W.nsIn K mainGlobals "rule_of" = some (some (.ref f21)))
    (l21 : K.lookup f21 = some ⟨oc21, od21, .func (PySem.W.fnOf "rule_of" "rule_of" (defArgs sRule) (defBody sRule) (defScope sRule) .none kV21 dc21 pm21 an21 cd21 ct21), sl21⟩)
    (c21 : PySem.W.codeIn K cd21 "rule_of" = true)
    (k21 : PySem.W.keepIn K (.ref f21) = true)
    (a22 : PySem.W.nsIn K mainGlobals "ways_left" = some (some (.ref f22)))
    (l22 : K.lookup f22 = some ⟨oc22, od22, .func (PySem.W.fnOf "ways_left" "ways_left" (defArgs sLeftW) (defBody sLeftW) (defScope sLeftW) .none kV22 dc22 pm22 an22 cd22 ct22), sl22⟩)
    (c22 : PySem.W.codeIn K cd22 "ways_left" = true)
    (k22 : PySem.W.keepIn K (.ref f22) = true)
    (a23 : PySem.W.nsIn K mainGlobals "ways_within" = some (some (.ref f23)))
    (l23 : K.lookup f23 = some ⟨oc23, od23, .func (PySem.W.fnOf "ways_within" "ways_within" (defArgs sWithin) (defBody sWithin) (defScope sWithin) .none kV23 dc23 pm23 an23 cd23 ct23), sl23⟩)
    (c23 : PySem.W.codeIn K cd23 "ways_within" = true)
    (k23 : PySem.W.keepIn K (.ref f23) = true)
    (a24 : PySem.W.nsIn K mainGlobals "hopeful_ways" = some (some (.ref f24)))
    (l24 : K.lookup f24 = some ⟨oc24, od24, .func (PySem.W.fnOf "hopeful_ways" "hopeful_ways" (defArgs sHopeful) (defBody sHopeful) (defScope sHopeful) .none kV24 dc24 pm24 an24 cd24 ct24), sl24⟩)
    (c24 : PySem.W.codeIn K cd24 "hopeful_ways" = true)
    (k24 : PySem.W.keepIn K (.ref f24) = true)
    (a25 : PySem.W.nsIn K mainGlobals "first_told" = some (some (.ref f25)))
    (l25 : K.lookup f25 = some ⟨oc25, od25, .func (PySem.W.fnOf "first_told" "first_told" (defArgs sFirstT) (defBody sFirstT) (defScope sFirstT) .none kV25 dc25 pm25 an25 cd25 ct25), sl25⟩)
    (c25 : PySem.W.codeIn K cd25 "first_told" = true)
    (k25 : PySem.W.keepIn K (.ref f25) = true)
    (a26 : PySem.W.nsIn K mainGlobals "ways_by" = some (some (.ref f26)))
    (l26 : K.lookup f26 = some ⟨oc26, od26, .func (PySem.W.fnOf "ways_by" "ways_by" (defArgs sWaysBy) (defBody sWaysBy) (defScope sWaysBy) .none kV26 dc26 pm26 an26 cd26 ct26), sl26⟩)
    (c26 : PySem.W.codeIn K cd26 "ways_by" = true)
    (k26 : PySem.W.keepIn K (.ref f26) = true)
    (a27 : PySem.W.nsIn K mainGlobals "come_to" = some (some (.ref f27)))
    (l27 : K.lookup f27 = some ⟨oc27, od27, .func (PySem.W.fnOf "come_to" "come_to" (defArgs sCome) (defBody sCome) (defScope sCome) .none kV27 dc27 pm27 an27 cd27 ct27), sl27⟩)
    (c27 : PySem.W.codeIn K cd27 "come_to" = true)
    (k27 : PySem.W.keepIn K (.ref f27) = true)
    (a28 : PySem.W.nsIn K mainGlobals "told_rule" = some (some (.ref f28)))
    (l28 : K.lookup f28 = some ⟨oc28, od28, .func (PySem.W.fnOf "told_rule" "told_rule" (defArgs sTold) (defBody sTold) (defScope sTold) .none kV28 dc28 pm28 an28 cd28 ct28), sl28⟩)
    (c28 : PySem.W.codeIn K cd28 "told_rule" = true)
    (k28 : PySem.W.keepIn K (.ref f28) = true)
    (a29 : PySem.W.nsIn K mainGlobals "lowest_stuck" = some (some (.ref f29)))
    (l29 : K.lookup f29 = some ⟨oc29, od29, .func (PySem.W.fnOf "lowest_stuck" "lowest_stuck" (defArgs sStuck) (defBody sStuck) (defScope sStuck) .none kV29 dc29 pm29 an29 cd29 ct29), sl29⟩)
    (c29 : PySem.W.codeIn K cd29 "lowest_stuck" = true)
    (k29 : PySem.W.keepIn K (.ref f29) = true)
    (a30 : PySem.W.nsIn K mainGlobals "lowest_without" = some (some (.ref f30)))
    (l30 : K.lookup f30 = some ⟨oc30, od30, .func (PySem.W.fnOf "lowest_without" "lowest_without" (defArgs sWithout) (defBody sWithout) (defScope sWithout) .none kV30 dc30 pm30 an30 cd30 ct30), sl30⟩)
    (c30 : PySem.W.codeIn K cd30 "lowest_without" = true)
    (k30 : PySem.W.keepIn K (.ref f30) = true)
    (a31 : PySem.W.nsIn K mainGlobals "judged" = some (some (.ref f31)))
    (l31 : K.lookup f31 = some ⟨oc31, od31, .func (PySem.W.fnOf "judged" "judged" (defArgs sJudged) (defBody sJudged) (defScope sJudged) .none kV31 dc31 pm31 an31 cd31 ct31), sl31⟩)
    (c31 : PySem.W.codeIn K cd31 "judged" = true)
    (k31 : PySem.W.keepIn K (.ref f31) = true)
    (a32 : PySem.W.nsIn K mainGlobals "are_facts" = some (some (.ref f32)))
    (l32 : K.lookup f32 = some ⟨oc32, od32, .func (PySem.W.fnOf "are_facts" "are_facts" (defArgs sFacts) (defBody sFacts) (defScope sFacts) .none kV32 dc32 pm32 an32 cd32 ct32), sl32⟩)
    (c32 : PySem.W.codeIn K cd32 "are_facts" = true)
    (k32 : PySem.W.keepIn K (.ref f32) = true)
    (a33 : PySem.W.nsIn K mainGlobals "paired" = some (some (.ref f33)))
    (l33 : K.lookup f33 = some ⟨oc33, od33, .func (PySem.W.fnOf "paired" "paired" (defArgs sPaired) (defBody sPaired) (defScope sPaired) .none kV33 dc33 pm33 an33 cd33 ct33), sl33⟩)
    (c33 : PySem.W.codeIn K cd33 "paired" = true)
    (k33 : PySem.W.keepIn K (.ref f33) = true)
    (a34 : PySem.W.nsIn K mainGlobals "level_and_rule" = some (some (.ref f34)))
    (l34 : K.lookup f34 = some ⟨oc34, od34, .func (PySem.W.fnOf "level_and_rule" "level_and_rule" (defArgs sLvR) (defBody sLvR) (defScope sLvR) .none kV34 dc34 pm34 an34 cd34 ct34), sl34⟩)
    (c34 : PySem.W.codeIn K cd34 "level_and_rule" = true)
    (k34 : PySem.W.keepIn K (.ref f34) = true)
    (a35 : PySem.W.nsIn K mainGlobals "end_of_call" = some (some (.ref f35)))
    (l35 : K.lookup f35 = some ⟨oc35, od35, .func (PySem.W.fnOf "end_of_call" "end_of_call" (defArgs sEnd) (defBody sEnd) (defScope sEnd) .none kV35 dc35 pm35 an35 cd35 ct35), sl35⟩)
    (c35 : PySem.W.codeIn K cd35 "end_of_call" = true)
    (k35 : PySem.W.keepIn K (.ref f35) = true)
    (a36 : PySem.W.nsIn K mainGlobals "answer_of" = some (some (.ref f36)))
    (l36 : K.lookup f36 = some ⟨oc36, od36, .func (PySem.W.fnOf "answer_of" "answer_of" (defArgs sAnsOf) (defBody sAnsOf) (defScope sAnsOf) .none kV36 dc36 pm36 an36 cd36 ct36), sl36⟩)
    (c36 : PySem.W.codeIn K cd36 "answer_of" = true)
    (k36 : PySem.W.keepIn K (.ref f36) = true)
    (a37 : PySem.W.nsIn K mainGlobals "answers" = some (some (.ref f37)))
    (l37 : K.lookup f37 = some ⟨oc37, od37, .func (PySem.W.fnOf "answers" "answers" (defArgs sAns) (defBody sAns) (defScope sAns) .none kV37 dc37 pm37 an37 cd37 ct37), sl37⟩)
    (c37 : PySem.W.codeIn K cd37 "answers" = true)
    (k37 : PySem.W.keepIn K (.ref f37) = true)
    (v_BEGINS : PySem.W.nsIn K mainGlobals "BEGINS" = some (some (.int 0 t_BEGINS)))
    (v_ACT : PySem.W.nsIn K mainGlobals "ACT" = some (some (.int 1 t_ACT)))
    (v_GOAL : PySem.W.nsIn K mainGlobals "GOAL" = some (some (.int 2 t_GOAL)))
    (v_SURE : PySem.W.nsIn K mainGlobals "SURE" = some (some (.int 3 t_SURE)))
    (v_HOPE : PySem.W.nsIn K mainGlobals "HOPE" = some (some (.int 4 t_HOPE)))
    (v_FROM : PySem.W.nsIn K mainGlobals "FROM" = some (some (.int 5 t_FROM)))
    (v_JUDGE : PySem.W.nsIn K mainGlobals "JUDGE" = some (some (.int 6 t_JUDGE)))
    (v_MOST_FACTS : PySem.W.nsIn K mainGlobals "MOST_FACTS" = some (some (.int 4 t_MOST_FACTS)))
    (v_MOST_ACTS : PySem.W.nsIn K mainGlobals "MOST_ACTS" = some (some (.int 6 t_MOST_ACTS)))
    (v_MOST_OUTCOMES : PySem.W.nsIn K mainGlobals "MOST_OUTCOMES" = some (some (.int 3 t_MOST_OUTCOMES)))
    (z_range : PySem.W.nsIn K mainGlobals "range" = some none)
    (z_len : PySem.W.nsIn K mainGlobals "len" = some none)
    (z_enumerate : PySem.W.nsIn K mainGlobals "enumerate" = some none)
    (z_sorted : PySem.W.nsIn K mainGlobals "sorted" = some none)
    (z_all : PySem.W.nsIn K mainGlobals "all" = some none)
    (z_any : PySem.W.nsIn K mainGlobals "any" = some none) :
    ∃ fd : FuncData, (∀ (s : Shared) (us : List Value), us.length = (["calls"] : List Str).length → BindsTo s fd ⟨us, []⟩ ((["calls"] : List Str).zip us)) ∧ ∀ base : Heap, K.In base → base.Ns mainGlobals mg → FnOk P w K mg base CX0 9 fa fd ["calls"] (spAns K) := by
  have e := hfa.symm.trans (PySem.W.mg_of X G a37)
  cases e
  have TCA : TxtA K CA := ⟨⟨pgCA, hdCA, poCA, saCA⟩, nfCA_needs, nfCA_bars, nfCA_outcomes⟩
  have MCA : Mk K CA f0 := ⟨mkCA, a0, i0, kcCA⟩
  have gCA := PySem.W.mg_of X G aaCA
  have TCH : TxtH K CH := ⟨⟨pgCH, hdCH, poCH, saCH⟩, nfCH_facts, nfCH_wanted, nfCH_acts⟩
  have MCH : Mk K CH f3 := ⟨mkCH, a3, i3, kcCH⟩
  have gCH := PySem.W.mg_of X G aaCH
  have F0 := fun_mk (st := sAInit) l0 c0 k0
  have b0 := F0.binds (ps := ["self", "needs", "bars", "outcomes"]) fun _ _ _ _ _ _ us hl => match us, hl with | [_, _, _, _], _ => rfl
  have m0 : Meth K CA "__init__" f0 := ⟨a0, i0, k0⟩
  have F1 := fun_mk (st := sMay) l1 c1 k1
  have b1 := F1.binds (ps := ["self", "state"]) fun _ _ _ _ _ _ us hl => match us, hl with | [_, _], _ => rfl
  have m1 : Meth K CA "may_be_done" f1 := ⟨a1, i1, k1⟩
  have F2 := fun_mk (st := sLeads) l2 c2 k2
  have b2 := F2.binds (ps := ["self", "state"]) fun _ _ _ _ _ _ us hl => match us, hl with | [_, _], _ => rfl
  have m2 : Meth K CA "leads_to" f2 := ⟨a2, i2, k2⟩
  have F3 := fun_mk (st := sHInit) l3 c3 k3
  have b3 := F3.binds (ps := ["self"]) fun _ _ _ _ _ _ us hl => match us, hl with | [_], _ => rfl
  have m3 : Meth K CH "__init__" f3 := ⟨a3, i3, k3⟩
  have F4 := fun_mk (st := sBegins) l4 c4 k4
  have b4 := F4.binds (ps := ["self", "facts", "wanted"]) fun _ _ _ _ _ _ us hl => match us, hl with | [_, _, _], _ => rfl
  have m4 : Meth K CH "begins" f4 := ⟨a4, i4, k4⟩
  have F5 := fun_mk (st := sAct) l5 c5 k5
  have b5 := F5.binds (ps := ["self", "needs", "bars", "row"]) fun _ _ _ _ _ _ us hl => match us, hl with | [_, _, _, _], _ => rfl
  have m5 : Meth K CH "act" f5 := ⟨a5, i5, k5⟩
  have F6 := fun_mk (st := sGoal) l6 c6 k6
  have b6 := F6.binds (ps := ["self", "wanted"]) fun _ _ _ _ _ _ us hl => match us, hl with | [_, _], _ => rfl
  have m6 : Meth K CH "goal" f6 := ⟨a6, i6, k6⟩
  have F7 := fun_mk (st := sAllWays) l7 c7 k7
  have b7 := F7.binds (ps := ["self"]) fun _ _ _ _ _ _ us hl => match us, hl with | [_], _ => rfl
  have m7 : Meth K CH "all_ways" f7 := ⟨a7, i7, k7⟩
  have F8 := fun_mk (st := sSure) l8 c8 k8
  have b8 := F8.binds (ps := ["self", "state"]) fun _ _ _ _ _ _ us hl => match us, hl with | [_, _], _ => rfl
  have m8 : Meth K CH "sure" f8 := ⟨a8, i8, k8⟩
  have F9 := fun_mk (st := sHope) l9 c9 k9
  have b9 := F9.binds (ps := ["self", "state"]) fun _ _ _ _ _ _ us hl => match us, hl with | [_, _], _ => rfl
  have m9 : Meth K CH "hope" f9 := ⟨a9, i9, k9⟩
  have F10 := fun_mk (st := sFrom) l10 c10 k10
  have b10 := F10.binds (ps := ["self"]) fun _ _ _ _ _ _ us hl => match us, hl with | [_], _ => rfl
  have m10 : Meth K CH "from_where" f10 := ⟨a10, i10, k10⟩
  have F11 := fun_mk (st := sJudge) l11 c11 k11
  have b11 := F11.binds (ps := ["self", "state", "row"]) fun _ _ _ _ _ _ us hl => match us, hl with | [_, _, _], _ => rfl
  have m11 : Meth K CH "judge" f11 := ⟨a11, i11, k11⟩
  have F12 := fun_mk (st := sWanted) l12 c12 k12
  have b12 := F12.binds (ps := ["state", "wanted"]) fun _ _ _ _ _ _ us hl => match us, hl with | [_, _], _ => rfl
  have g12 := PySem.W.mg_of X G a12
  have F13 := fun_mk (st := sWaysIn) l13 c13 k13
  have b13 := F13.binds (ps := ["acts", "state"]) fun _ _ _ _ _ _ us hl => match us, hl with | [_, _], _ => rfl
  have g13 := PySem.W.mg_of X G a13
  have F14 := fun_mk (st := sWaysOf) l14 c14 k14
  have b14 := F14.binds (ps := ["acts", "how_many"]) fun _ _ _ _ _ _ us hl => match us, hl with | [_, _], _ => rfl
  have g14 := PySem.W.mg_of X G a14
  have F15 := fun_mk (st := sUpTo) l15 c15 k15
  have b15 := F15.binds (ps := ["state", "levels", "top"]) fun _ _ _ _ _ _ us hl => match us, hl with | [_, _, _], _ => rfl
  have g15 := PySem.W.mg_of X G a15
  have F16 := fun_mk (st := sAllUp) l16 c16 k16
  have b16 := F16.binds (ps := ["states", "levels", "top"]) fun _ _ _ _ _ _ us hl => match us, hl with | [_, _, _], _ => rfl
  have g16 := PySem.W.mg_of X G a16
  have F17 := fun_mk (st := sAnyUp) l17 c17 k17
  have b17 := F17.binds (ps := ["states", "levels", "top"]) fun _ _ _ _ _ _ us hl => match us, hl with | [_, _, _], _ => rfl
  have g17 := PySem.W.mg_of X G a17
  have F18 := fun_mk (st := sLow) l18 c18 k18
  have b18 := F18.binds (ps := ["ways_here", "levels", "top", "serves"]) fun _ _ _ _ _ _ us hl => match us, hl with | [_, _, _, _], _ => rfl
  have g18 := PySem.W.mg_of X G a18
  have F19 := fun_mk (st := sAbove) l19 c19 k19
  have b19 := F19.binds (ps := ["ways", "levels", "top", "serves"]) fun _ _ _ _ _ _ us hl => match us, hl with | [_, _, _, _], _ => rfl
  have g19 := PySem.W.mg_of X G a19
  have F20 := fun_mk (st := sLevels) l20 c20 k20
  have b20 := F20.binds (ps := ["ways", "wanted", "serves"]) fun _ _ _ _ _ _ us hl => match us, hl with | [_, _, _], _ => rfl
  have g20 := PySem.W.mg_of X G a20
  have F21 := fun_mk (st := sRule) l21 c21 k21
  have b21 := F21.binds (ps := ["ways", "levels", "serves"]) fun _ _ _ _ _ _ us hl => match us, hl with | [_, _, _], _ => rfl
  have g21 := PySem.W.mg_of X G a21
  have F22 := fun_mk (st := sLeftW) l22 c22 k22
  have b22 := F22.binds (ps := ["ways_here", "kept"]) fun _ _ _ _ _ _ us hl => match us, hl with | [_, _], _ => rfl
  have g22 := PySem.W.mg_of X G a22
  have F23 := fun_mk (st := sWithin) l23 c23 k23
  have b23 := F23.binds (ps := ["ways", "kept"]) fun _ _ _ _ _ _ us hl => match us, hl with | [_, _], _ => rfl
  have g23 := PySem.W.mg_of X G a23
  have F24 := fun_mk (st := sHopeful) l24 c24 k24
  have b24 := F24.binds (ps := ["ways", "wanted"]) fun _ _ _ _ _ _ us hl => match us, hl with | [_, _], _ => rfl
  have g24 := PySem.W.mg_of X G a24
  have F25 := fun_mk (st := sFirstT) l25 c25 k25
  have b25 := F25.binds (ps := ["pairs", "wanted"]) fun _ _ _ _ _ _ us hl => match us, hl with | [_, _], _ => rfl
  have g25 := PySem.W.mg_of X G a25
  have F26 := fun_mk (st := sWaysBy) l26 c26 k26
  have b26 := F26.binds (ps := ["ways", "rule"]) fun _ _ _ _ _ _ us hl => match us, hl with | [_, _], _ => rfl
  have g26 := PySem.W.mg_of X G a26
  have F27 := fun_mk (st := sCome) l27 c27 k27
  have b27 := F27.binds (ps := ["ways", "start"]) fun _ _ _ _ _ _ us hl => match us, hl with | [_, _], _ => rfl
  have g27 := PySem.W.mg_of X G a27
  have F28 := fun_mk (st := sTold) l28 c28 k28
  have b28 := F28.binds (ps := ["ways", "rule", "start"]) fun _ _ _ _ _ _ us hl => match us, hl with | [_, _, _], _ => rfl
  have g28 := PySem.W.mg_of X G a28
  have F29 := fun_mk (st := sStuck) l29 c29 k29
  have b29 := F29.binds (ps := ["ruled", "states", "wanted"]) fun _ _ _ _ _ _ us hl => match us, hl with | [_, _, _], _ => rfl
  have g29 := PySem.W.mg_of X G a29
  have F30 := fun_mk (st := sWithout) l30 c30 k30
  have b30 := F30.binds (ps := ["levels", "states"]) fun _ _ _ _ _ _ us hl => match us, hl with | [_, _], _ => rfl
  have g30 := PySem.W.mg_of X G a30
  have F31 := fun_mk (st := sJudged) l31 c31 k31
  have b31 := F31.binds (ps := ["ways", "wanted", "rule", "start"]) fun _ _ _ _ _ _ us hl => match us, hl with | [_, _, _, _], _ => rfl
  have g31 := PySem.W.mg_of X G a31
  have F32 := fun_mk (st := sFacts) l32 c32 k32
  have b32 := F32.binds (ps := ["some", "facts"]) fun _ _ _ _ _ _ us hl => match us, hl with | [_, _], _ => rfl
  have g32 := PySem.W.mg_of X G a32
  have F33 := fun_mk (st := sPaired) l33 c33 k33
  have b33 := F33.binds (ps := ["row"]) fun _ _ _ _ _ _ us hl => match us, hl with | [_], _ => rfl
  have g33 := PySem.W.mg_of X G a33
  have F34 := fun_mk (st := sLvR) l34 c34 k34
  have b34 := F34.binds (ps := ["ways", "wanted", "serves", "state"]) fun _ _ _ _ _ _ us hl => match us, hl with | [_, _, _, _], _ => rfl
  have g34 := PySem.W.mg_of X G a34
  have F35 := fun_mk (st := sEnd) l35 c35 k35
  have b35 := F35.binds (ps := ["calls", "at"]) fun _ _ _ _ _ _ us hl => match us, hl with | [_, _], _ => rfl
  have g35 := PySem.W.mg_of X G a35
  have F36 := fun_mk (st := sAnsOf) l36 c36 k36
  have b36 := F36.binds (ps := ["house", "call"]) fun _ _ _ _ _ _ us hl => match us, hl with | [_, _], _ => rfl
  have g36 := PySem.W.mg_of X G a36
  have F37 := fun_mk (st := sAns) l37 c37 k37
  have b37 := F37.binds (ps := ["calls"]) fun _ _ _ _ _ _ us hl => match us, hl with | [_], _ => rfl
  have g37 := PySem.W.mg_of X G a37
  have gv_BEGINS := PySem.W.mg_of X G v_BEGINS
  have gv_ACT := PySem.W.mg_of X G v_ACT
  have gv_GOAL := PySem.W.mg_of X G v_GOAL
  have gv_SURE := PySem.W.mg_of X G v_SURE
  have gv_HOPE := PySem.W.mg_of X G v_HOPE
  have gv_FROM := PySem.W.mg_of X G v_FROM
  have gv_JUDGE := PySem.W.mg_of X G v_JUDGE
  have gv_MOST_FACTS := PySem.W.mg_of X G v_MOST_FACTS
  have gv_MOST_ACTS := PySem.W.mg_of X G v_MOST_ACTS
  have gv_MOST_OUTCOMES := PySem.W.mg_of X G v_MOST_OUTCOMES
  have gz_range := PySem.W.mg_none_of X G z_range
  have gz_len := PySem.W.mg_none_of X G z_len
  have gz_enumerate := PySem.W.mg_none_of X G z_enumerate
  have gz_sorted := PySem.W.mg_none_of X G z_sorted
  have gz_all := PySem.W.mg_none_of X G z_all
  have gz_any := PySem.W.mg_none_of X G z_any
  refine ⟨PySem.W.fnOf "answers" "answers" (defArgs sAns) (defBody sAns) (defScope sAns) .none kV37 dc37 pm37 an37 cd37 ct37, fun s us hu => match us, hu with | [_], _ => .of_eq rfl, fun base _ _ => ?_⟩
  have G0 : FnOk P w K mg base CX0 1 _ _ ["self", "needs", "bars", "outcomes"] (spAInit CA) := ok_ainit F0 TCA
  have U0 : Mth P w K mg base CA "__init__" 1 ["self", "needs", "bars", "outcomes"] (spAInit CA) _ _ := ⟨G0, m0, b0⟩
  have G1 : FnOk P w K mg base CX0 1 _ _ ["self", "state"] (spMay CA) := ok_may F1 TCA
  have U1 : Mth P w K mg base CA "may_be_done" 1 ["self", "state"] (spMay CA) _ _ := ⟨G1, m1, b1⟩
  have G2 : FnOk P w K mg base CX0 1 _ _ ["self", "state"] (spLeads CA) := ok_leads F2 TCA
  have U2 : Mth P w K mg base CA "leads_to" 1 ["self", "state"] (spLeads CA) _ _ := ⟨G2, m2, b2⟩
  have G12 : FnOk P w K mg base CX0 1 _ _ ["state", "wanted"] (spWanted) := ok_wanted F12
  have U12 : Cal P w K mg base "is_as_wanted" 1 ["state", "wanted"] (spWanted) _ _ := ⟨G12, g12, k12, b12⟩
  have G13 : FnOk P w K mg base CX0 2 _ _ ["acts", "state"] (spWaysIn CA) := ok_waysin F13 TCA U1 U2 gz_enumerate
  have U13 : Cal P w K mg base "ways_in" 2 ["acts", "state"] (spWaysIn CA) _ _ := ⟨G13, g13, k13, b13⟩
  have G14 : FnOk P w K mg base CX0 3 _ _ ["acts", "how_many"] (spWaysOf CA) := ok_waysof F14 U13 gz_range
  have U14 : Cal P w K mg base "ways_of" 3 ["acts", "how_many"] (spWaysOf CA) _ _ := ⟨G14, g14, k14, b14⟩
  have G15 : FnOk P w K mg base CX0 1 _ _ ["state", "levels", "top"] (spIsUp) := ok_upto F15
  have U15 : Cal P w K mg base "is_up_to" 1 ["state", "levels", "top"] (spIsUp) _ _ := ⟨G15, g15, k15, b15⟩
  have G16 : FnOk P w K mg base CX0 2 _ _ ["states", "levels", "top"] (spUp true) := ok_allup F16 U15 gz_all
  have U16 : Cal P w K mg base "all_up_to" 2 ["states", "levels", "top"] (spUp true) _ _ := ⟨G16, g16, k16, b16⟩
  have G17 : FnOk P w K mg base CX0 2 _ _ ["states", "levels", "top"] (spUp false) := ok_anyup F17 U15 gz_any
  have U17 : Cal P w K mg base "any_up_to" 2 ["states", "levels", "top"] (spUp false) _ _ := ⟨G17, g17, k17, b17⟩
  have G18t : FnOk P w K mg base CX0 3 _ _ ["ways_here", "levels", "top", "serves"] (spLow true f16) := ok_low F18 U16
  have U18t : Cal P w K mg base "lowest_act" 3 ["ways_here", "levels", "top", "serves"] (spLow true f16) _ _ := ⟨G18t, g18, k18, b18⟩
  have G19t : FnOk P w K mg base CX0 4 _ _ ["ways", "levels", "top", "serves"] (spAbove true f16) := ok_above F19 U18t
  have U19t : Cal P w K mg base "states_above" 4 ["ways", "levels", "top", "serves"] (spAbove true f16) _ _ := ⟨G19t, g19, k19, b19⟩
  have G20t : FnOk P w K mg base CX0 5 _ _ ["ways", "wanted", "serves"] (spLevels true f16) := ok_levels F20 U19t U12 gz_len
  have U20t : Cal P w K mg base "levels_of" 5 ["ways", "wanted", "serves"] (spLevels true f16) _ _ := ⟨G20t, g20, k20, b20⟩
  have G21t : FnOk P w K mg base CX0 4 _ _ ["ways", "levels", "serves"] (spRule true f16) := ok_rule F21 U18t
  have U21t : Cal P w K mg base "rule_of" 4 ["ways", "levels", "serves"] (spRule true f16) _ _ := ⟨G21t, g21, k21, b21⟩
  have G18y : FnOk P w K mg base CX0 3 _ _ ["ways_here", "levels", "top", "serves"] (spLow false f17) := ok_low F18 U17
  have U18y : Cal P w K mg base "lowest_act" 3 ["ways_here", "levels", "top", "serves"] (spLow false f17) _ _ := ⟨G18y, g18, k18, b18⟩
  have G19y : FnOk P w K mg base CX0 4 _ _ ["ways", "levels", "top", "serves"] (spAbove false f17) := ok_above F19 U18y
  have U19y : Cal P w K mg base "states_above" 4 ["ways", "levels", "top", "serves"] (spAbove false f17) _ _ := ⟨G19y, g19, k19, b19⟩
  have G20y : FnOk P w K mg base CX0 5 _ _ ["ways", "wanted", "serves"] (spLevels false f17) := ok_levels F20 U19y U12 gz_len
  have U20y : Cal P w K mg base "levels_of" 5 ["ways", "wanted", "serves"] (spLevels false f17) _ _ := ⟨G20y, g20, k20, b20⟩
  have G21y : FnOk P w K mg base CX0 4 _ _ ["ways", "levels", "serves"] (spRule false f17) := ok_rule F21 U18y
  have U21y : Cal P w K mg base "rule_of" 4 ["ways", "levels", "serves"] (spRule false f17) _ _ := ⟨G21y, g21, k21, b21⟩
  have G22 : FnOk P w K mg base CX0 1 _ _ ["ways_here", "kept"] (spLeft) := ok_left F22 gz_all
  have U22 : Cal P w K mg base "ways_left" 1 ["ways_here", "kept"] (spLeft) _ _ := ⟨G22, g22, k22, b22⟩
  have G23 : FnOk P w K mg base CX0 2 _ _ ["ways", "kept"] (spWithin) := ok_within F23 U22
  have U23 : Cal P w K mg base "ways_within" 2 ["ways", "kept"] (spWithin) _ _ := ⟨G23, g23, k23, b23⟩
  have G24 : FnOk P w K mg base CX0 6 _ _ ["ways", "wanted"] (spHopeful) := ok_hopeful F24 U20y U23 U17 gz_len
  have U24 : Cal P w K mg base "hopeful_ways" 6 ["ways", "wanted"] (spHopeful) _ _ := ⟨G24, g24, k24, b24⟩
  have G25 : FnOk P w K mg base CX0 2 _ _ ["pairs", "wanted"] (spFirstT) := ok_firstt F25 U12
  have U25 : Cal P w K mg base "first_told" 2 ["pairs", "wanted"] (spFirstT) _ _ := ⟨G25, g25, k25, b25⟩
  have G26 : FnOk P w K mg base CX0 1 _ _ ["ways", "rule"] (spWaysBy) := ok_waysby F26
  have U26 : Cal P w K mg base "ways_by" 1 ["ways", "rule"] (spWaysBy) _ _ := ⟨G26, g26, k26, b26⟩
  have G27 : FnOk P w K mg base CX0 1 _ _ ["ways", "start"] (spCome) := ok_come F27 gz_len gz_sorted
  have U27 : Cal P w K mg base "come_to" 1 ["ways", "start"] (spCome) _ _ := ⟨G27, g27, k27, b27⟩
  have G28 : FnOk P w K mg base CX0 2 _ _ ["ways", "rule", "start"] (spTold) := ok_told F28 U27 U26
  have U28 : Cal P w K mg base "told_rule" 2 ["ways", "rule", "start"] (spTold) _ _ := ⟨G28, g28, k28, b28⟩
  have G29 : FnOk P w K mg base CX0 2 _ _ ["ruled", "states", "wanted"] (spStuck) := ok_stuck F29 U12 gz_len
  have U29 : Cal P w K mg base "lowest_stuck" 2 ["ruled", "states", "wanted"] (spStuck) _ _ := ⟨G29, g29, k29, b29⟩
  have G30 : FnOk P w K mg base CX0 1 _ _ ["levels", "states"] (spWithout) := ok_without F30
  have U30 : Cal P w K mg base "lowest_without" 1 ["levels", "states"] (spWithout) _ _ := ⟨G30, g30, k30, b30⟩
  have G31 : FnOk P w K mg base CX0 6 _ _ ["ways", "wanted", "rule", "start"] (spJudged) := ok_judged F31 U26 U27 U29 U30 U20t U20y U16 U17
  have U31 : Cal P w K mg base "judged" 6 ["ways", "wanted", "rule", "start"] (spJudged) _ _ := ⟨G31, g31, k31, b31⟩
  have G32 : FnOk P w K mg base CX0 1 _ _ ["some", "facts"] (spFacts) := ok_facts F32
  have U32 : Cal P w K mg base "are_facts" 1 ["some", "facts"] (spFacts) _ _ := ⟨G32, g32, k32, b32⟩
  have G33 : FnOk P w K mg base CX0 1 _ _ ["row"] (spPaired K) := ok_paired F33 gz_range gz_len
  have U33 : Cal P w K mg base "paired" 1 ["row"] (spPaired K) _ _ := ⟨G33, g33, k33, b33⟩
  have G34t : FnOk P w K mg base CX0 6 _ _ ["ways", "wanted", "serves", "state"] (spLvR true f16) := ok_lvr F34 U20t U21t U28
  have U34t : Cal P w K mg base "level_and_rule" 6 ["ways", "wanted", "serves", "state"] (spLvR true f16) _ _ := ⟨G34t, g34, k34, b34⟩
  have G34y : FnOk P w K mg base CX0 6 _ _ ["ways", "wanted", "serves", "state"] (spLvR false f17) := ok_lvr F34 U20y U21y U28
  have U34y : Cal P w K mg base "level_and_rule" 6 ["ways", "wanted", "serves", "state"] (spLvR false f17) _ _ := ⟨G34y, g34, k34, b34⟩
  have G3 : FnOk P w K mg base CX0 1 _ _ ["self"] (spHInit CH) := ok_hinit F3 TCH
  have U3 : Mth P w K mg base CH "__init__" 1 ["self"] (spHInit CH) _ _ := ⟨G3, m3, b3⟩
  have G4 : FnOk P w K mg base CX0 2 _ _ ["self", "facts", "wanted"] (spBegins CA CH) := ok_begins F4 TCH U32 gv_MOST_FACTS
  have U4 : Mth P w K mg base CH "begins" 2 ["self", "facts", "wanted"] (spBegins CA CH) _ _ := ⟨G4, m4, b4⟩
  have G5 : FnOk P w K mg base CX0 3 _ _ ["self", "needs", "bars", "row"] (spAct CA CH) := ok_act F5 TCH U32 U33 MCA G0 b0 gCA gv_MOST_ACTS gv_MOST_OUTCOMES gz_len
  have U5 : Mth P w K mg base CH "act" 3 ["self", "needs", "bars", "row"] (spAct CA CH) _ _ := ⟨G5, m5, b5⟩
  have G6 : FnOk P w K mg base CX0 2 _ _ ["self", "wanted"] (spGoal CA CH) := ok_goal F6 TCH U32
  have U6 : Mth P w K mg base CH "goal" 2 ["self", "wanted"] (spGoal CA CH) _ _ := ⟨G6, m6, b6⟩
  have G7 : FnOk P w K mg base CX0 4 _ _ ["self"] (spAllWays CA CH) := ok_allways F7 TCH U14
  have U7 : Mth P w K mg base CH "all_ways" 4 ["self"] (spAllWays CA CH) _ _ := ⟨G7, m7, b7⟩
  have G8 : FnOk P w K mg base CX0 7 _ _ ["self", "state"] (spSure CA CH) := ok_sure F8 TCH U32 U7 U34t U16
  have U8 : Mth P w K mg base CH "sure" 7 ["self", "state"] (spSure CA CH) _ _ := ⟨G8, m8, b8⟩
  have G9 : FnOk P w K mg base CX0 7 _ _ ["self", "state"] (spHope CA CH) := ok_hope F9 TCH U32 U7 U24 U34y U17
  have U9 : Mth P w K mg base CH "hope" 7 ["self", "state"] (spHope CA CH) _ _ := ⟨G9, m9, b9⟩
  have G10 : FnOk P w K mg base CX0 7 _ _ ["self"] (spFrom CA CH) := ok_from F10 TCH U7 U24 U20t U20y U16 U17 gz_len
  have U10 : Mth P w K mg base CH "from_where" 7 ["self"] (spFrom CA CH) _ _ := ⟨G10, m10, b10⟩
  have G11 : FnOk P w K mg base CX0 7 _ _ ["self", "state", "row"] (spJudge CA CH) := ok_judge F11 TCH U32 U7 U33 U25 U31 gz_len
  have U11 : Mth P w K mg base CH "judge" 7 ["self", "state", "row"] (spJudge CA CH) _ _ := ⟨G11, m11, b11⟩
  have G35 : FnOk P w K mg base CX0 1 _ _ ["calls", "at"] (spEnd K) := ok_end F35 ⟨⟨_, gv_BEGINS⟩, ⟨_, gv_ACT⟩, ⟨_, gv_GOAL⟩, ⟨_, gv_SURE⟩, ⟨_, gv_HOPE⟩, ⟨_, gv_FROM⟩, ⟨_, gv_JUDGE⟩⟩
  have U35 : Cal P w K mg base "end_of_call" 1 ["calls", "at"] (spEnd K) _ _ := ⟨G35, g35, k35, b35⟩
  have G36 : FnOk P w K mg base CX0 8 _ _ ["house", "call"] (spAnsOf CA CH) := ok_ansof F36 ⟨⟨_, gv_BEGINS⟩, ⟨_, gv_ACT⟩, ⟨_, gv_GOAL⟩, ⟨_, gv_SURE⟩, ⟨_, gv_HOPE⟩, ⟨_, gv_FROM⟩, ⟨_, gv_JUDGE⟩⟩ TCH U4 U5 U6 U8 U9 U10 U11
  have U36 : Cal P w K mg base "answer_of" 8 ["house", "call"] (spAnsOf CA CH) _ _ := ⟨G36, g36, k36, b36⟩
  have G37 : FnOk P w K mg base CX0 9 _ _ ["calls"] (spAns K) := ok_ans F37 U35 U36 MCH G3 b3 gCH gz_len
  have U37 : Cal P w K mg base "answers" 9 ["calls"] (spAns K) _ _ := ⟨G37, g37, k37, b37⟩
  exact G37
end Sh
open PySem PySem.W PyProof.Rows
set_option maxRecDepth 100000 in
set_option maxHeartbeats 0 in
theorem PySem.Challenge.cw_surehopes_s01_answers_holds : PySem.Challenge.rw_surehopes_s01_answers.Holds := by
  w_on; k_headS; (case hw => exact ⟨[.list [.int 5]], by decide +kernel, by decide +kernel⟩)
  k_fillS
  refine L2.walk_specK (r := PySem.Challenge.rw_surehopes_s01_answers) (k := 9) (CX := L2.CX0) (ps := ["calls"]) (sp := Sh.spAns) (by decide +kernel) rfl rfl ⟨rfl, by decide, by decide⟩ (fun w h Y => PySem.W.kIn_of Y) ?F ?S (fun _ _ _ _ z => z)
  case F =>
    intro w mg fa h Y KX G hmg
    refine' Sh.all_mk KX G hmg ?aaCA ?pgCA ?hdCA ?poCA ?saCA ?mkCA ?kcCA ?nfCA_needs ?nfCA_bars ?nfCA_outcomes ?aaCH ?pgCH ?hdCH ?poCH ?saCH ?mkCH ?kcCH ?nfCH_facts ?nfCH_wanted ?nfCH_acts ?a0 ?i0 ?l0 ?c0 ?k0 ?a1 ?i1 ?l1 ?c1 ?k1 ?a2 ?i2 ?l2 ?c2 ?k2 ?a3 ?i3 ?l3 ?c3 ?k3 ?a4 ?i4 ?l4 ?c4 ?k4 ?a5 ?i5 ?l5 ?c5 ?k5 ?a6 ?i6 ?l6 ?c6 ?k6 ?a7 ?i7 ?l7 ?c7 ?k7 ?a8 ?i8 ?l8 ?c8 ?k8 ?a9 ?i9 ?l9 ?c9 ?k9 ?a10 ?i10 ?l10 ?c10 ?k10 ?a11 ?i11 ?l11 ?c11 ?k11 ?a12 ?l12 ?c12 ?k12 ?a13 ?l13 ?c13 ?k13 ?a14 ?l14 ?c14 ?k14 ?a15 ?l15 ?c15 ?k15 ?a16 ?l16 ?c16 ?k16 ?a17 ?l17 ?c17 ?k17 ?a18 ?l18 ?c18 ?k18 ?a19 ?l19 ?c19 ?k19 ?a20 ?l20 ?c20 ?k20 ?a21 ?l21 ?c21 ?k21 ?a22 ?l22 ?c22 ?k22 ?a23 ?l23 ?c23 ?k23 ?a24 ?l24 ?c24 ?k24 ?a25 ?l25 ?c25 ?k25 ?a26 ?l26 ?c26 ?k26 ?a27 ?l27 ?c27 ?k27 ?a28 ?l28 ?c28 ?k28 ?a29 ?l29 ?c29 ?k29 ?a30 ?l30 ?c30 ?k30 ?a31 ?l31 ?c31 ?k31 ?a32 ?l32 ?c32 ?k32 ?a33 ?l33 ?c33 ?k33 ?a34 ?l34 ?c34 ?k34 ?a35 ?l35 ?c35 ?k35 ?a36 ?l36 ?c36 ?k36 ?a37 ?l37 ?c37 ?k37 ?v_BEGINS ?v_ACT ?v_GOAL ?v_SURE ?v_HOPE ?v_FROM ?v_JUDGE ?v_MOST_FACTS ?v_MOST_ACTS ?v_MOST_OUTCOMES ?z_range ?z_len ?z_enumerate ?z_sorted ?z_all ?z_any
    (case aaCA => k_is)
    (case pgCA => k_is)
    (case hdCA => k_is)
    (case poCA => k_is)
    (case saCA => k_is)
    (case mkCA => k_is)
    (case kcCA => k_is)
    (case nfCA_needs => k_is)
    (case nfCA_bars => k_is)
    (case nfCA_outcomes => k_is)
    (case aaCH => k_is)
    (case pgCH => k_is)
    (case hdCH => k_is)
    (case poCH => k_is)
    (case saCH => k_is)
    (case mkCH => k_is)
    (case kcCH => k_is)
    (case nfCH_facts => k_is)
    (case nfCH_wanted => k_is)
    (case nfCH_acts => k_is)
    (case a0 => k_is)
    (case i0 => k_is)
    (case l0 => k_is)
    (case c0 => k_is)
    (case k0 => k_is)
    (case a1 => k_is)
    (case i1 => k_is)
    (case l1 => k_is)
    (case c1 => k_is)
    (case k1 => k_is)
    (case a2 => k_is)
    (case i2 => k_is)
    (case l2 => k_is)
    (case c2 => k_is)
    (case k2 => k_is)
    (case a3 => k_is)
    (case i3 => k_is)
    (case l3 => k_is)
    (case c3 => k_is)
    (case k3 => k_is)
    (case a4 => k_is)
    (case i4 => k_is)
    (case l4 => k_is)
    (case c4 => k_is)
    (case k4 => k_is)
    (case a5 => k_is)
    (case i5 => k_is)
    (case l5 => k_is)
    (case c5 => k_is)
    (case k5 => k_is)
    (case a6 => k_is)
    (case i6 => k_is)
    (case l6 => k_is)
    (case c6 => k_is)
    (case k6 => k_is)
    (case a7 => k_is)
    (case i7 => k_is)
    (case l7 => k_is)
    (case c7 => k_is)
    (case k7 => k_is)
    (case a8 => k_is)
    (case i8 => k_is)
    (case l8 => k_is)
    (case c8 => k_is)
    (case k8 => k_is)
    (case a9 => k_is)
    (case i9 => k_is)
    (case l9 => k_is)
    (case c9 => k_is)
    (case k9 => k_is)
    (case a10 => k_is)
    (case i10 => k_is)
    (case l10 => k_is)
    (case c10 => k_is)
    (case k10 => k_is)
    (case a11 => k_is)
    (case i11 => k_is)
    (case l11 => k_is)
    (case c11 => k_is)
    (case k11 => k_is)
    (case a12 => k_is)
    (case l12 => k_is)
    (case c12 => k_is)
    (case k12 => k_is)
    (case a13 => k_is)
    (case l13 => k_is)
    (case c13 => k_is)
    (case k13 => k_is)
    (case a14 => k_is)
    (case l14 => k_is)
    (case c14 => k_is)
    (case k14 => k_is)
    (case a15 => k_is)
    (case l15 => k_is)
    (case c15 => k_is)
    (case k15 => k_is)
    (case a16 => k_is)
    (case l16 => k_is)
    (case c16 => k_is)
    (case k16 => k_is)
    (case a17 => k_is)
    (case l17 => k_is)
    (case c17 => k_is)
    (case k17 => k_is)
    (case a18 => k_is)
    (case l18 => k_is)
    (case c18 => k_is)
    (case k18 => k_is)
    (case a19 => k_is)
    (case l19 => k_is)
    (case c19 => k_is)
    (case k19 => k_is)
    (case a20 => k_is)
    (case l20 => k_is)
    (case c20 => k_is)
    (case k20 => k_is)
    (case a21 => k_is)
    (case l21 => k_is)
    (case c21 => k_is)
    (case k21 => k_is)
    (case a22 => k_is)
    (case l22 => k_is)
    (case c22 => k_is)
    (case k22 => k_is)
    (case a23 => k_is)
    (case l23 => k_is)
    (case c23 => k_is)
    (case k23 => k_is)
    (case a24 => k_is)
    (case l24 => k_is)
    (case c24 => k_is)
    (case k24 => k_is)
    (case a25 => k_is)
    (case l25 => k_is)
    (case c25 => k_is)
    (case k25 => k_is)
    (case a26 => k_is)
    (case l26 => k_is)
    (case c26 => k_is)
    (case k26 => k_is)
    (case a27 => k_is)
    (case l27 => k_is)
    (case c27 => k_is)
    (case k27 => k_is)
    (case a28 => k_is)
    (case l28 => k_is)
    (case c28 => k_is)
    (case k28 => k_is)
    (case a29 => k_is)
    (case l29 => k_is)
    (case c29 => k_is)
    (case k29 => k_is)
    (case a30 => k_is)
    (case l30 => k_is)
    (case c30 => k_is)
    (case k30 => k_is)
    (case a31 => k_is)
    (case l31 => k_is)
    (case c31 => k_is)
    (case k31 => k_is)
    (case a32 => k_is)
    (case l32 => k_is)
    (case c32 => k_is)
    (case k32 => k_is)
    (case a33 => k_is)
    (case l33 => k_is)
    (case c33 => k_is)
    (case k33 => k_is)
    (case a34 => k_is)
    (case l34 => k_is)
    (case c34 => k_is)
    (case k34 => k_is)
    (case a35 => k_is)
    (case l35 => k_is)
    (case c35 => k_is)
    (case k35 => k_is)
    (case a36 => k_is)
    (case l36 => k_is)
    (case c36 => k_is)
    (case k36 => k_is)
    (case a37 => k_is)
    (case l37 => k_is)
    (case c37 => k_is)
    (case k37 => k_is)
    (case v_BEGINS => k_is)
    (case v_ACT => k_is)
    (case v_GOAL => k_is)
    (case v_SURE => k_is)
    (case v_HOPE => k_is)
    (case v_FROM => k_is)
    (case v_JUDGE => k_is)
    (case v_MOST_FACTS => k_is)
    (case v_MOST_ACTS => k_is)
    (case v_MOST_OUTCOMES => k_is)
    (case z_range => k_is)
    (case z_len => k_is)
    (case z_enumerate => k_is)
    (case z_sorted => k_is)
    (case z_all => k_is)
    (case z_any => k_is)
  case S =>
    intro K H xs a hO hwi hask hx
    cases hx with
    | cons h1 h2 =>
      cases h2
      cases h1 with
      | lst hs ha =>
        have e := L2.ints_dw a.1 _ ha
        subst e
        exact ⟨_, a.1, rfl, hs, hask, fun H' p hp => .lst (L2.SqL.of hp) (L2.dw_ints _)⟩
#print axioms PySem.Challenge.cw_surehopes_s01_answers_holds
