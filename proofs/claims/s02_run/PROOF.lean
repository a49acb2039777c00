import PyProof.Rows.All
import Wide.All
import OpenK.AllK
import Wide.FinOn
import Open.SpecLaws
import KE.OsGo
import HandS.ForMost
import HandS.ForSpec
import HandS.Deep
import HandS.Walk
import HandS.TupLen
import PySem.Challenge.RW_movesthatend_s02_run
set_option Elab.async false
set_option maxRecDepth 100000
set_option maxHeartbeats 2000000
/-! ### The mathematics: the program's parts, each told by the specification's own functions -/
namespace Mte
open Ks565 (Folk)

/-- what person i has with those of group k among the first j people -/
def hasUp (t : Folk) (g : List Nat) (i k j : Nat) : Int := Ks565.with_ t i ((List.range j).filter fun o => g.getD o 0 == k)
def hasW (t : Folk) (g : List Nat) (i k : Nat) : Int := Ks565.with_ t i (Ks565.members g k)

theorem with_append (t : Folk) (i : Nat) (a b : List Nat) : Ks565.with_ t i (a ++ b) = (b.map (Ks565.likes t i)).foldl (· + ·) (Ks565.with_ t i a) := by
  unfold Ks565.with_
  rw [List.map_append, List.foldl_append]
theorem hasUp_zero (t : Folk) (g : List Nat) (i k : Nat) : hasUp t g i k 0 = 0 := rfl
theorem hasUp_in {t : Folk} {g : List Nat} {i k j : Nat} (h : g.getD j 0 = k) : hasUp t g i k (j + 1) = hasUp t g i k j + Ks565.likes t i j := by
  unfold hasUp
  rw [List.range_succ, List.filter_append, with_append]
  have e : ([j].filter fun o => g.getD o 0 == k) = [j] := by
    rw [List.filter_cons, if_pos (by rw [h]; exact beq_self_eq_true k)]
    rfl
  rw [e]
  rfl
theorem hasUp_out {t : Folk} {g : List Nat} {i k j : Nat} (h : ¬ g.getD j 0 = k) : hasUp t g i k (j + 1) = hasUp t g i k j := by
  unfold hasUp
  rw [List.range_succ, List.filter_append, with_append]
  have e : ([j].filter fun o => g.getD o 0 == k) = [] := by
    rw [List.filter_cons, if_neg (by simpa using h)]
    rfl
  rw [e]
  rfl
theorem hasUp_all {t : Folk} {g : List Nat} {i k n : Nat} (h : g.length = n) : hasUp t g i k n = hasW t g i k := by
  subst h
  rfl
theorem likes_self (t : Folk) (i : Nat) : Ks565.likes t i i = 0 := if_pos rfl
theorem likes_ne {t : Folk} {i j : Nat} (h : ¬ i = j) : Ks565.likes t i j = t.v.getD (i * t.n + j) 0 := if_neg h

/-! welcome, let go -/
theorem mem_members {g : List Nat} {k o : Nat} : o ∈ Ks565.members g k ↔ o < g.length ∧ g.getD o 0 = k := by
  unfold Ks565.members
  rw [List.mem_filter, List.mem_range]
  constructor
  · rintro ⟨a, b⟩
    exact ⟨a, by simpa using b⟩
  · rintro ⟨a, b⟩
    exact ⟨a, by simpa using b⟩
theorem welcome_true {t : Folk} {g : List Nat} {i k n : Nat} (hn : g.length = n) (h : ∀ o, o < n → g.getD o 0 = k → 0 ≤ Ks565.likes t o i) : Ks565.welcome t g i k = true := by
  unfold Ks565.welcome
  rw [List.all_eq_true]
  intro o ho
  obtain ⟨a, b⟩ := mem_members.mp ho
  exact decide_eq_true (h o (hn ▸ a) b)
theorem welcome_false {t : Folk} {g : List Nat} {i k n o : Nat} (hn : g.length = n) (h1 : o < n) (h2 : g.getD o 0 = k) (h3 : Ks565.likes t o i < 0) : Ks565.welcome t g i k = false := by
  unfold Ks565.welcome
  rw [List.all_eq_false]
  refine ⟨o, mem_members.mpr ⟨hn ▸ h1, h2⟩, ?_⟩
  simp only [decide_eq_true_eq]
  omega
theorem letGo_true {t : Folk} {g : List Nat} {i n : Nat} (hn : g.length = n) (h : ∀ o, o < n → o ≠ i → g.getD o 0 = g.getD i 0 → Ks565.likes t o i ≤ 0) : Ks565.letGo t g i = true := by
  unfold Ks565.letGo
  rw [List.all_eq_true]
  intro o ho
  obtain ⟨a, b⟩ := mem_members.mp ho
  by_cases e : o = i
  · simp [e]
  · rw [decide_eq_true (h o (hn ▸ a) e b), Bool.or_true]
theorem letGo_false {t : Folk} {g : List Nat} {i n o : Nat} (hn : g.length = n) (h1 : o < n) (h0 : o ≠ i) (h2 : g.getD o 0 = g.getD i 0) (h3 : 0 < Ks565.likes t o i) : Ks565.letGo t g i = false := by
  unfold Ks565.letGo
  rw [List.all_eq_false]
  refine ⟨o, mem_members.mpr ⟨hn ▸ h1, h2⟩, ?_⟩
  have e1 : (o == i) = false := by simpa using h0
  rw [e1, Bool.false_or]
  simp only [decide_eq_true_eq]
  omega

/-! may -/
theorem may_less {t : Folk} {w : Nat} {g : List Nat} {i k : Nat} (h : hasW t g i k ≤ hasW t g i (g.getD i 0)) : Ks565.may t w g i k = false := by
  have e : Ks565.rather t g i k = false := by
    unfold Ks565.rather
    have q : decide (Ks565.worth t g i < Ks565.with_ t i (Ks565.members g k)) = false := decide_eq_false (by
      show ¬ hasW t g i (g.getD i 0) < hasW t g i k
      omega)
    rw [q, Bool.and_false]
  unfold Ks565.may
  rw [e]
  rfl
theorem ne_of_more {t : Folk} {g : List Nat} {i k : Nat} (h : ¬ hasW t g i k ≤ hasW t g i (g.getD i 0)) : ¬ g.getD i 0 = k := by
  intro e
  rw [e] at h
  omega
theorem rather_true {t : Folk} {g : List Nat} {i k : Nat} (hk : k ≤ Ks565.groups g) (h : ¬ hasW t g i k ≤ hasW t g i (g.getD i 0)) : Ks565.rather t g i k = true := by
  unfold Ks565.rather
  have q : decide (Ks565.worth t g i < Ks565.with_ t i (Ks565.members g k)) = true := decide_eq_true (by
    show hasW t g i (g.getD i 0) < hasW t g i k
    omega)
  have q1 : (g.getD i 0 != k) = true := by simpa using ne_of_more h
  rw [q, q1, decide_eq_true hk]
  rfl
theorem may_not_welcome {t : Folk} {w : Nat} {g : List Nat} {i k : Nat} (hw : ¬ w = 0) (h : Ks565.welcome t g i k = false) : Ks565.may t w g i k = false := by
  unfold Ks565.may
  have q : (w == 0) = false := by simpa using hw
  rw [h, q]
  simp
theorem may_not_letGo {t : Folk} {w : Nat} {g : List Nat} {i k : Nat} (hw : w = 2) (h : Ks565.letGo t g i = false) : Ks565.may t w g i k = false := by
  unfold Ks565.may
  rw [h, hw]
  simp
theorem may_yes {t : Folk} {w : Nat} {g : List Nat} {i k : Nat} (hr : Ks565.rather t g i k = true) (h1 : w = 0 ∨ Ks565.welcome t g i k = true) (h2 : w ≠ 2 ∨ Ks565.letGo t g i = true) : Ks565.may t w g i k = true := by
  unfold Ks565.may
  rw [hr]
  have q1 : (w == 0 || Ks565.welcome t g i k) = true := by
    rcases h1 with h | h
    · simp [h]
    · simp [h]
  have q2 : (w != 2 || Ks565.letGo t g i) = true := by
    rcases h2 with h | h
    · simp [h]
    · simp [h]
  rw [q1, q2]
  rfl

/-! the best group of one person -/
def better (t : Folk) (g : List Nat) (i : Nat) (b : Option Nat) (k : Nat) : Option Nat := match b with
  | none => some k
  | some b => if hasW t g i b < hasW t g i k then some k else some b
def bestUp (t : Folk) (w : Nat) (g : List Nat) (i j : Nat) : Option Nat := ((List.range j).filter fun k => Ks565.may t w g i k).foldl (better t g i) none
def bestOf (t : Folk) (w : Nat) (g : List Nat) (i : Nat) : Option Nat := bestUp t w g i (Ks565.groups g + 1)
theorem bestUp_zero (t : Folk) (w : Nat) (g : List Nat) (i : Nat) : bestUp t w g i 0 = none := rfl
theorem bestUp_may {t : Folk} {w : Nat} {g : List Nat} {i j : Nat} (h : Ks565.may t w g i j = true) : bestUp t w g i (j + 1) = better t g i (bestUp t w g i j) j := by
  unfold bestUp
  rw [List.range_succ, List.filter_append, List.foldl_append, List.filter_cons, if_pos h]
  rfl
theorem bestUp_not {t : Folk} {w : Nat} {g : List Nat} {i j : Nat} (h : Ks565.may t w g i j = false) : bestUp t w g i (j + 1) = bestUp t w g i j := by
  unfold bestUp
  rw [List.range_succ, List.filter_append, List.foldl_append, List.filter_cons, if_neg (by rw [h]; exact Bool.false_ne_true)]
  rfl
theorem better_fold (t : Folk) (g : List Nat) (i : Nat) : ∀ (l : List Nat) (b : Nat), l.foldl (better t g i) (some b) = some (l.foldl (fun b k => if hasW t g i b < hasW t g i k then k else b) b)
  | [], b => rfl
  | k :: l, b => by
    rw [List.foldl_cons, List.foldl_cons]
    have e : better t g i (some b) k = some (if hasW t g i b < hasW t g i k then k else b) := by
      show (if hasW t g i b < hasW t g i k then some k else some b) = _
      split <;> rfl
    rw [e]
    exact better_fold t g i l _
theorem better_some {t : Folk} {g : List Nat} {i k : Nat} {b : Option Nat} : ∃ x, better t g i b k = some x ∧ (x = k ∨ b = some x) := by
  unfold better
  cases b with
  | none => exact ⟨k, rfl, .inl rfl⟩
  | some b =>
    by_cases c : hasW t g i b < hasW t g i k
    · exact ⟨k, by simp [c], .inl rfl⟩
    · exact ⟨b, by simp [c], .inr rfl⟩
theorem bestUp_lt {t : Folk} {w : Nat} {g : List Nat} {i : Nat} : ∀ (j : Nat) {b : Nat}, bestUp t w g i j = some b → b < j
  | 0, b, h => by rw [bestUp_zero] at h; cases h
  | j + 1, b, h => by
    cases c : Ks565.may t w g i j with
    | false =>
      rw [bestUp_not c] at h
      exact Nat.lt_succ_of_lt (bestUp_lt j h)
    | true =>
      rw [bestUp_may c] at h
      obtain ⟨x, e, q⟩ := better_some (t := t) (g := g) (i := i) (k := j) (b := bestUp t w g i j)
      rw [e] at h
      cases h
      rcases q with q | q
      · omega
      · exact Nat.lt_succ_of_lt (bestUp_lt j q)

/-! the first move -/
def firstMove (t : Folk) (w : Nat) (g : List Nat) : Option (Nat × Nat) := (List.range t.n).findSome? fun i => (bestOf t w g i).map fun k => (i, k)
def ks (t : Folk) (w : Nat) (g : List Nat) (i : Nat) : List Nat := (List.range (Ks565.groups g + 1)).filter fun k => Ks565.may t w g i k
theorem pair_fold (t : Folk) (g : List Nat) (i : Nat) : ∀ (l : List Nat) (b : Nat), (l.map fun k => (i, k)).foldl (fun (b q : Nat × Nat) => if Ks565.with_ t i (Ks565.members g b.2) < Ks565.with_ t i (Ks565.members g q.2) then q else b) (i, b)
      = (i, l.foldl (fun b k => if hasW t g i b < hasW t g i k then k else b) b)
  | [], b => rfl
  | k :: l, b => by
    rw [List.map_cons, List.foldl_cons, List.foldl_cons]
    by_cases c : hasW t g i b < hasW t g i k
    · rw [if_pos c, if_pos (show Ks565.with_ t i (Ks565.members g (i, b).2) < Ks565.with_ t i (Ks565.members g (i, k).2) from c)]
      exact pair_fold t g i l k
    · rw [if_neg c, if_neg (show ¬ Ks565.with_ t i (Ks565.members g (i, b).2) < Ks565.with_ t i (Ks565.members g (i, k).2) from c)]
      exact pair_fold t g i l b
def stepOf (t : Folk) (g : List Nat) : List (Nat × Nat) → Option (Nat × Nat × List Nat)
  | [] => none
  | p :: l =>
    let mine := (p :: l).filter fun q => q.1 == p.1
    let k := (mine.foldl (fun b q => if Ks565.with_ t p.1 (Ks565.members g b.2) < Ks565.with_ t p.1 (Ks565.members g q.2) then q else b) p).2
    some (p.1, k, Ks565.go g p.1 k)
theorem stepOf_eq (t : Folk) (w : Nat) (g : List Nat) : Ks567.step t w g = stepOf t g (Ks565.moves t w g) := by
  unfold Ks567.step stepOf
  rfl
theorem bestOf_ks (t : Folk) (w : Nat) (g : List Nat) (i : Nat) : bestOf t w g i = (ks t w g i).foldl (better t g i) none := rfl
theorem stepOf_moves (t : Folk) (w : Nat) (g : List Nat) : ∀ L : List Nat, L.Nodup →
    stepOf t g (L.flatMap fun i => (ks t w g i).map fun k => (i, k)) = (L.findSome? fun i => (bestOf t w g i).map fun k => (i, k)).map fun p => (p.1, p.2, Ks565.go g p.1 p.2)
  | [], _ => rfl
  | i :: L, hn => by
    rw [List.nodup_cons] at hn
    rw [List.flatMap_cons, List.findSome?_cons, bestOf_ks]
    cases e : ks t w g i with
    | nil =>
      rw [List.map_nil, List.nil_append, List.foldl_nil, Option.map_none]
      exact stepOf_moves t w g L hn.2
    | cons k l =>
      rw [List.foldl_cons]
      have e1 : better t g i none k = some k := rfl
      rw [e1, better_fold, Option.map_some, Option.map_some, List.map_cons, List.cons_append]
      have f1 : ((i, k) :: ((l.map fun k => (i, k)) ++ L.flatMap fun i => (ks t w g i).map fun k => (i, k))).filter (fun q => q.1 == i) = (i, k) :: l.map fun k => (i, k) := by
        rw [List.filter_cons, if_pos (by exact beq_self_eq_true i), List.filter_append]
        have a : (l.map fun k => (i, k)).filter (fun q => q.1 == i) = l.map fun k => (i, k) := by
          rw [List.filter_eq_self]
          intro q hq
          obtain ⟨y, _, rfl⟩ := List.mem_map.mp hq
          exact beq_self_eq_true i
        have b : (L.flatMap fun i => (ks t w g i).map fun k => (i, k)).filter (fun q => q.1 == i) = [] := by
          rw [List.filter_eq_nil_iff]
          intro q hq
          obtain ⟨j, hj, hq⟩ := List.mem_flatMap.mp hq
          obtain ⟨y, _, rfl⟩ := List.mem_map.mp hq
          intro z
          have z' : j = i := by simpa using z
          exact hn.1 (z' ▸ hj)
        rw [a, b, List.append_nil]
      unfold stepOf
      dsimp only
      rw [f1, List.foldl_cons, if_neg (by omega), pair_fold]
theorem step_is (t : Folk) (w : Nat) (g : List Nat) : Ks567.step t w g = (firstMove t w g).map fun p => (p.1, p.2, Ks565.go g p.1 p.2) := by
  rw [stepOf_eq]
  exact stepOf_moves t w g (List.range t.n) List.nodup_range
/-- nobody of the first j may go -/
def noneUp (t : Folk) (w : Nat) (g : List Nat) (j : Nat) : Prop := ∀ i, i < j → bestOf t w g i = none
theorem first_none {t : Folk} {w : Nat} {g : List Nat} (h : noneUp t w g t.n) : firstMove t w g = none := by
  unfold firstMove
  rw [List.findSome?_eq_none_iff]
  intro i hi
  rw [h i (List.mem_range.mp hi)]
  rfl
theorem first_some {t : Folk} {w : Nat} {g : List Nat} {i k : Nat} (h : noneUp t w g i) (hi : i < t.n) (e : bestOf t w g i = some k) : firstMove t w g = some (i, k) := by
  have aux : ∀ (m : Nat) (s : Nat), s + m = t.n → s ≤ i → (List.range' s m).findSome? (fun i => (bestOf t w g i).map fun k => (i, k)) = some (i, k) := by
    intro m
    induction m with
    | zero =>
      intro s a b
      omega
    | succ m ih =>
      intro s a b
      rw [List.range'_succ, List.findSome?_cons]
      by_cases c : s = i
      · subst c
        rw [e]
        rfl
      · rw [h s (by omega)]
        exact ih (s + 1) (by omega) (by omega)
  unfold firstMove
  rw [List.range_eq_range']
  exact aux t.n 0 (by omega) (by omega)
theorem first_lt {t : Folk} {w : Nat} {g : List Nat} {i k : Nat} (h : firstMove t w g = some (i, k)) : i < t.n ∧ k ≤ Ks565.groups g := by
  obtain ⟨j, hj, e⟩ := List.exists_of_findSome?_eq_some h
  cases c : bestOf t w g j with
  | none =>
    rw [c] at e
    cases e
  | some b =>
    rw [c] at e
    cases e
    exact ⟨List.mem_range.mp hj, Nat.le_of_lt_succ (bestUp_lt _ c)⟩

/-! groups numbered as they come -/
def firsts (g : List Nat) : List Nat := g.foldl (fun l x => if l.contains x then l else l ++ [x]) []
def idx (l : List Nat) (x : Nat) : Nat := (l.takeWhile fun y => y != x).length
theorem tidy_eq (g : List Nat) : Ks565.tidy g = g.map (idx (firsts g)) := rfl
theorem firsts_in {pre : List Nat} {x : Nat} (h : x ∈ firsts pre) : firsts (pre ++ [x]) = firsts pre := by
  unfold firsts at *
  rw [List.foldl_append, List.foldl_cons, List.foldl_nil, if_pos (by simpa using h)]
theorem firsts_new {pre : List Nat} {x : Nat} (h : ¬ x ∈ firsts pre) : firsts (pre ++ [x]) = firsts pre ++ [x] := by
  unfold firsts at *
  rw [List.foldl_append, List.foldl_cons, List.foldl_nil, if_neg (by simpa using h)]
theorem firsts_mem {pre : List Nat} {x : Nat} : x ∈ firsts pre ↔ x ∈ pre := by
  have aux : ∀ (r pre : List Nat), (∀ x, x ∈ firsts pre ↔ x ∈ pre) → ∀ x, x ∈ firsts (pre ++ r) ↔ x ∈ pre ++ r := by
    intro r
    induction r with
    | nil =>
      intro pre h x
      rw [List.append_nil]
      exact h x
    | cons y r ih =>
      intro pre h x
      rw [show pre ++ y :: r = (pre ++ [y]) ++ r from by rw [List.append_assoc]; rfl]
      refine ih (pre ++ [y]) (fun x => ?_) x
      by_cases c : y ∈ firsts pre
      · rw [firsts_in c, h x, List.mem_append]
        constructor
        · exact .inl
        · rintro (a | a)
          · exact a
          · rw [List.mem_singleton] at a
            rw [a]
            exact (h y).mp c
      · rw [firsts_new c, List.mem_append, List.mem_append, h x]
  have q := aux pre [] (fun x => Iff.rfl) x
  rw [List.nil_append] at q
  exact q
theorem takeWhile_more {p : Nat → Bool} : ∀ (a b : List Nat), (∃ y ∈ a, p y = false) → (a ++ b).takeWhile p = a.takeWhile p
  | [], b, h => by
    obtain ⟨y, hy, _⟩ := h
    cases hy
  | x :: a, b, h => by
    rw [List.cons_append, List.takeWhile_cons, List.takeWhile_cons]
    cases c : p x with
    | false => simp
    | true =>
      simp only [if_true]
      rw [takeWhile_more a b]
      obtain ⟨y, hy, e⟩ := h
      rcases List.mem_cons.mp hy with z | z
      · rw [z, c] at e
        cases e
      · exact ⟨y, z, e⟩
theorem idx_more {l m : List Nat} {x : Nat} (h : x ∈ l) : idx (l ++ m) x = idx l x := by
  unfold idx
  rw [takeWhile_more l m ⟨x, h, by simp⟩]
theorem takeWhile_all {p : Nat → Bool} : ∀ (a b : List Nat), (∀ y ∈ a, p y = true) → (a ++ b).takeWhile p = a ++ b.takeWhile p
  | [], b, _ => rfl
  | x :: a, b, h => by
    rw [List.cons_append, List.takeWhile_cons, if_pos (h x (List.mem_cons_self ..)), takeWhile_all a b (fun y hy => h y (List.mem_cons_of_mem _ hy))]
    rfl
theorem idx_new {l : List Nat} {x : Nat} (h : ¬ x ∈ l) : idx (l ++ [x]) x = l.length := by
  unfold idx
  rw [takeWhile_all l [x] (fun y hy => by
    have : y ≠ x := fun z => h (z ▸ hy)
    simpa using this)]
  simp
theorem map_idx_more {pre l m : List Nat} (h : ∀ x ∈ pre, x ∈ l) : pre.map (idx (l ++ m)) = pre.map (idx l) :=
  List.map_congr_left fun x hx => idx_more (h x hx)
/-- what is told of the first ones stays so -/
def tidyUp (pre : List Nat) : List Nat := pre.map (idx (firsts pre))
theorem tidy_up (g : List Nat) : Ks565.tidy g = tidyUp g := rfl
theorem tidyUp_in {pre : List Nat} {x : Nat} (h : x ∈ firsts pre) : tidyUp (pre ++ [x]) = tidyUp pre ++ [idx (firsts pre) x] := by
  unfold tidyUp
  rw [firsts_in h, List.map_append]
  rfl
theorem tidyUp_new {pre : List Nat} {x : Nat} (h : ¬ x ∈ firsts pre) : tidyUp (pre ++ [x]) = tidyUp pre ++ [(firsts pre).length] := by
  unfold tidyUp
  rw [firsts_new h, List.map_append, map_idx_more (fun x hx => firsts_mem.mpr hx)]
  rw [List.map_cons, List.map_nil, idx_new h]
theorem tidy_length (g : List Nat) : (Ks565.tidy g).length = g.length := by
  rw [tidy_eq, List.length_map]
theorem firsts_nodup_len : ∀ (r pre : List Nat), (firsts pre).length ≤ pre.length → (firsts (pre ++ r)).length ≤ (pre ++ r).length
  | [], pre, h => by
    rw [List.append_nil]
    exact h
  | y :: r, pre, h => by
    rw [show pre ++ y :: r = (pre ++ [y]) ++ r from by rw [List.append_assoc]; rfl]
    refine firsts_nodup_len r (pre ++ [y]) ?_
    by_cases c : y ∈ firsts pre
    · rw [firsts_in c, List.length_append]
      exact Nat.le_trans h (Nat.le_add_right _ _)
    · rw [firsts_new c, List.length_append, List.length_append]
      exact Nat.add_le_add_right h _
theorem firsts_len (g : List Nat) : (firsts g).length ≤ g.length := by
  have q := firsts_nodup_len g [] (Nat.le_refl _)
  rw [List.nil_append] at q
  exact q
theorem idx_lt {l : List Nat} {x : Nat} (h : x ∈ l) : idx l x < l.length := by
  unfold idx
  induction l with
  | nil => cases h
  | cons y l ih =>
    rw [List.takeWhile_cons]
    by_cases c : y = x
    · simp [c]
    · have q : (y != x) = true := by simpa using c
      rw [if_pos q, List.length_cons, List.length_cons]
      rcases List.mem_cons.mp h with z | z
      · exact absurd z.symm c
      · exact Nat.succ_lt_succ (ih z)
theorem tidy_lt {g : List Nat} {x : Nat} (h : x ∈ Ks565.tidy g) : x < g.length := by
  rw [tidy_eq] at h
  obtain ⟨y, hy, rfl⟩ := List.mem_map.mp h
  exact Nat.lt_of_lt_of_le (idx_lt (firsts_mem.mpr hy)) (firsts_len g)

/-! the greatest number of a group -/
theorem foldl_max_le : ∀ (l : List Nat) (b m : Nat), b ≤ m → (∀ x ∈ l, x ≤ m) → l.foldl max b ≤ m
  | [], b, m, h, _ => h
  | x :: l, b, m, h, k => by
    rw [List.foldl_cons]
    exact foldl_max_le l (max b x) m (Nat.max_le.mpr ⟨h, k x (List.mem_cons_self ..)⟩) fun y hy => k y (List.mem_cons_of_mem _ hy)
theorem le_foldl_max : ∀ (l : List Nat) (b : Nat), b ≤ l.foldl max b ∧ ∀ x ∈ l, x ≤ l.foldl max b
  | [], b => ⟨Nat.le_refl _, fun x h => by cases h⟩
  | x :: l, b => by
    rw [List.foldl_cons]
    obtain ⟨a, c⟩ := le_foldl_max l (max b x)
    refine ⟨Nat.le_trans (Nat.le_max_left b x) a, fun y hy => ?_⟩
    rcases List.mem_cons.mp hy with z | z
    · rw [z]
      exact Nat.le_trans (Nat.le_max_right b x) a
    · exact c y z
theorem groups_of {g : List Nat} {m : Nat} (h : m ∈ g) (k : ∀ x ∈ g, x ≤ m) : Ks565.groups g = m + 1 := by
  unfold Ks565.groups
  have a := foldl_max_le g 0 m (Nat.zero_le _) k
  have b := (le_foldl_max g 0).2 m h
  omega

/-! the refusals -/
theorem folk_none {n : Nat} {v : List Int} {f : Folk → Ks565.Ans} (h : n < 1 ∨ 5 < n ∨ v.length ≠ n * n ∨ ∃ x ∈ v, x < -20 ∨ 20 < x) : Ks565.folk n v f = Ks565.no (-22) := by
  have e : Ks565.folkOf n v = none := by
    unfold Ks565.folkOf
    rw [if_pos]
    rcases h with h | h | h | ⟨x, hx, h⟩
    · exact .inl h
    · exact .inr (.inl h)
    · exact .inr (.inr (.inl h))
    · refine .inr (.inr (.inr ?_))
      rw [List.any_eq_true]
      exact ⟨x, hx, decide_eq_true (by show 20 < x.natAbs; omega)⟩
  unfold Ks565.folk
  rw [e]
theorem folk_some {n : Nat} {v : List Int} {f : Folk → Ks565.Ans} (h1 : 1 ≤ n) (h5 : n ≤ 5) (hl : v.length = n * n) (hv : ∀ x ∈ v, -20 ≤ x ∧ x ≤ 20) : Ks565.folk n v f = f ⟨n, v⟩ := by
  have e : Ks565.folkOf n v = some ⟨n, v⟩ := by
    unfold Ks565.folkOf
    rw [if_neg]
    rintro (h | h | h | h)
    · omega
    · have h' : 5 < n := h
      omega
    · exact h hl
    · rw [List.any_eq_true] at h
      obtain ⟨x, hx, h⟩ := h
      have h' : 20 < x.natAbs := of_decide_eq_true h
      have := hv x hx
      omega
  unfold Ks565.folk
  rw [e]
end Mte
/-! ### The layer: what stands in memory, and small words -/
namespace Mte
open PySem PySem.Spec PyProof.Rows L2
open Ks565 (Folk)
def nv (g : List Nat) : List V := g.map fun (x : Nat) => V.int (x : Int)
theorem nv_len (g : List Nat) : (nv g).length = g.length := List.length_map ..
theorem nv_at {g : List Nat} {i x : Nat} (h : g[i]? = some x) : (nv g)[i]? = some (V.int (x : Int)) := by
  unfold nv
  rw [List.getElem?_map, h]
  rfl
theorem getD_at {g : List Nat} {i : Nat} (h : i < g.length) : g[i]? = some (g.getD i 0) := by
  rw [List.getD_eq_getElem?_getD, List.getElem?_eq_getElem h]
  rfl
theorem getDI_at {g : List Int} {i : Nat} (h : i < g.length) : g[i]? = some (g.getD i 0) := by
  rw [List.getD_eq_getElem?_getD, List.getElem?_eq_getElem h]
  rfl
theorem of_map_at {α : Type} {f : α → V} {l : List α} {i : Nat} {y : V} (h : (l.map f)[i]? = some y) : ∃ x, l[i]? = some x ∧ y = f x := by
  rw [List.getElem?_map] at h
  cases e : l[i]? with
  | none =>
    rw [e] at h
    cases h
  | some x =>
    rw [e] at h
    exact ⟨x, rfl, (Option.some.inj h).symm⟩
theorem take_more {α : Type} {l : List α} {i : Nat} {x : α} (h : l[i]? = some x) : l.take (i + 1) = l.take i ++ [x] := by
  rw [List.take_add_one, h]
  rfl
/-- n people, their worths, their groups, as they should be -/
structure Ok (t : Folk) (g : List Nat) : Prop where
  n1 : 1 ≤ t.n
  n5 : t.n ≤ 5
  hv : t.v.length = t.n * t.n
  hg : g.length = t.n
theorem Ok.gat {t : Folk} {g : List Nat} (h : Ok t g) {i : Nat} (hi : i < t.n) : atI (nv g) (i : Int) = some (V.int (g.getD i 0 : Nat)) :=
  atI_nat (nv_at (getD_at (h.hg ▸ hi)))
theorem place_lt {n i j : Nat} (hi : i < n) (hj : j < n) : i * n + j < n * n := by
  have h1 : (i + 1) * n ≤ n * n := Nat.mul_le_mul_right n hi
  rw [Nat.add_mul, Nat.one_mul] at h1
  omega
theorem Ok.vat {t : Folk} {g : List Nat} (h : Ok t g) {i j : Nat} (hi : i < t.n) (hj : j < t.n) : atI (t.v.map V.int) ((i : Int) * (t.n : Int) + (j : Int)) = some (V.int (t.v.getD (i * t.n + j) 0)) := by
  have e : (i : Int) * (t.n : Int) + (j : Int) = ((i * t.n + j : Nat) : Int) := by
    rw [Int.natCast_add, Int.natCast_mul]
  rw [e]
  refine atI_nat ?_
  rw [List.getElem?_map, getDI_at (by rw [h.hv]; exact place_lt hi hj)]
  rfl
theorem mul_small {i n : Nat} (h : i < 5000000000) : CMul (i : Int) (n : Int) := .inl ⟨by omega, by omega⟩
/-! tests -/
theorem if_t {c A B : Prop} [Decidable c] (h : c) (a : A) : if decide c = true then A else B := by
  rw [decide_eq_true h]
  exact iteT a
theorem if_f {c A B : Prop} [Decidable c] (h : ¬ c) (b : B) : if decide c = true then A else B := by
  rw [decide_eq_false h]
  exact iteF b
theorem if_nt {c A B : Prop} [Decidable c] (h : ¬ c) (a : A) : if (!decide c) = true then A else B := by
  rw [decide_eq_false h]
  exact iteT a
theorem if_nf {c A B : Prop} [Decidable c] (h : c) (b : B) : if (!decide c) = true then A else B := by
  rw [decide_eq_true h]
  exact iteF b
theorem if_bt {c : Bool} {A B : Prop} (h : c = true) (a : A) : if c = true then A else B := by
  rw [h]
  exact iteT a
theorem if_bf {c : Bool} {A B : Prop} (h : c = false) (b : B) : if c = true then A else B := by
  rw [h]
  exact iteF b
theorem vne {a b : Nat} (h : ¬ a = b) : ¬ V.int (a : Int) = V.int (b : Int) := fun z => h (Int.ofNat_inj.mp (V.int.inj z))
theorem veq {a b : Nat} (h : a = b) : V.int (a : Int) = V.int (b : Int) := by rw [h]
/-! the module's names: a number; a def with its promise -/
def GI (mg : Str → Option Value) (x : Str) (i : Int) : Prop := ∃ tk : Tok, mg x = some (.int i tk)
theorem pe_gi {X : Cx} {x : Str} {i : Int} {pos : Pos} (hg : Gl X x) (h : GI X.mg x i) (hd : (x == ("__debug__" : Str)) = false := by decide) : PE X (.Name x pos) (tC (.int i)) := by
  obtain ⟨tk, h⟩ := h
  exact pe_glob hg h ⟨_, rfl⟩ hd
/-- the def of that name stands as the text has it -/
def Dfx (K : PySem.W.Frag) (mg : Str → Option Value) (x : Str) (st : Stmt) (ps : List Str) : Prop := ∃ (f : Addr) (fd : FuncData), Fun K x x st f fd ∧ Binds K fd ps [] ∧ mg x = some (.ref f)
/-- it keeps its promise -/
def Cal (P : Program) (w : World) (K : PySem.W.Frag) (mg : Str → Option Value) (base : Heap) (k : Nat) (x : Str) (ps : List Str) (sp : Sp) : Prop :=
  ∃ (f : Addr) (fd : FuncData), FnOk P w K mg base CX0 k f fd ps sp ∧ Binds K fd ps [] ∧ mg x = some (.ref f) ∧ PySem.W.keepIn K (.ref f) = true
theorem pe_cal {X : Cx} {k : Nat} {x : Str} {ps : List Str} {sp : Sp} {e : Expr} {es : List Expr} {t : TA} {p pos : Pos} (C : Cal X.prog X.w X.K X.mg X.base k x ps sp) (hr : Room k X.A) (hg : Gl X x) (ha : PA X (e :: es) t)
    (hdb : (x == ("__debug__" : Str)) = false := by decide) (he : starEach (e :: es) X.env = (false, eval e X.env) :: starEach es X.env := by rfl) (hpl : (backTo pos (starEach es X.env)).any (·.1) = false := by rfl) :
    PE X (.Call (.Name x p) (e :: es) [] pos) (tCall sp [] E0 t) := by
  obtain ⟨f, fd, F, b, m, kp⟩ := C
  exact pe_call F hr hg m kp b .nil pass0 ha hdb he hpl
theorem dfx_mk {K : PySem.W.Frag} {h : Heap} {mg : Str → Option Value} (X : K.In h) (G : h.Ns mainGlobals mg) {x : Str} {st : Stmt} {ps : List Str} {f : Addr} {oc : Value} {od an : Option Addr} {osl : Array (Option Value)} {kV doc pm cdv ct : Value}
    (a : PySem.W.nsIn K mainGlobals x = some (some (.ref f))) (l : K.lookup f = some ⟨oc, od, .func (PySem.W.fnOf x x (defArgs st) (defBody st) (defScope st) .none kV doc pm an cdv ct), osl⟩) (c : PySem.W.codeIn K cdv x = true) (k : PySem.W.keepIn K (.ref f) = true)
    (hb : ∀ (kV doc pm : Value) (an : Option Addr) (cdv ct : Value) (us : List Value), us.length = ps.length → bindArgs (PySem.W.fnOf x x (defArgs st) (defBody st) (defScope st) .none kV doc pm an cdv ct) ⟨us, []⟩ = pure (ps.zip us)) : Dfx K mg x st ps :=
  ⟨f, _, fun_mk l c k, (fun_mk l c k).binds hb, PySem.W.mg_of X G a⟩
theorem gi_mk {K : PySem.W.Frag} {h : Heap} {mg : Str → Option Value} (X : K.In h) (G : h.Ns mainGlobals mg) {x : Str} {i : Int} {tk : Tok} (a : PySem.W.nsIn K mainGlobals x = some (some (.int i tk))) : GI mg x i := ⟨tk, PySem.W.mg_of X G a⟩
/-- Fun.ok over these -/
theorem Dfx.ok {P : Program} {w : World} {K : PySem.W.Frag} {mg : Str → Option Value} {base : Heap} {x : Str} {st : Stmt} {N ps : List Str} {k : Nat} {sp : Sp} (D : Dfx K mg x st ps) (S : FnScope N ps (defScope st)) (len : ∀ vs H Q E, sp vs H Q E → vs.length = ps.length)
    (hbody : ∀ (f : Addr) (cdv : Value) (A : Around) (outer : List Env) (s : Shared) (H : Hp) (vs : List V) (Q : VK) (E : XK), Room k (A.deeper (envOfC x (defScope st) s.heap.objs.size f cdv)) → sp vs H Q E →
      ∃ t, PSs (cxOf CX0 P w K mg base N x (defScope st) f cdv A outer s H E).nox (defBody st) t ∧ t { nx := fun _ H' => Q .non H', rt := Q } (start N vs) H) : Cal P w K mg base (k + 1) x ps sp := by
  obtain ⟨f, fd, F, b, m⟩ := D
  exact ⟨f, fd, F.ok S len (hbody f), b, m, F.kp⟩
end Mte
/-! ### What is read from a list or a tuple, whichever it is -/
namespace Mte
open PySem PySem.Spec PyProof.Rows L2
def SqA (K : PySem.W.Frag) (H : Hp) (a : Addr) (xs : List V) : Prop := SqL K H a xs ∨ SqT K H a xs
theorem _root_.L2.Same.any {K : PySem.W.Frag} {H H' : Hp} {a : Addr} {xs : List V} (e : Same H H') (h : SqA K H a xs) : SqA K H' a xs := by
  rcases h with h | ((h | ⟨o, h⟩) | h)
  · exact .inl (e.seq h)
  · exact .inr (.inl (.inl (e _ _ h)))
  · exact .inr (.inl (.inr ⟨o, e _ _ h⟩))
  · exact .inr (.inr h)
section
variable {X : Cx}
def rIxA (K : PySem.W.Frag) : R2 := fun x y H Q => ∃ p xs i v, x = .ref p ∧ y = .int i ∧ SqA K H p xs ∧ atI xs i = some v ∧ Q v H
theorem ix_any : IxR X (rIxA X.K) := fun value slice pins s σ H x y v u Q I rx ry ⟨p, xs, i, z, e1, e2, hq, he, q⟩ hs =>
  hq.elim (fun hq => ix_list value slice pins s σ H x y v u Q I rx ry ⟨p, xs, i, z, e1, e2, hq, he, q⟩ hs) (fun hq => ix_tup value slice pins s σ H x y v u Q I rx ry ⟨p, xs, i, z, e1, e2, hq, he, q⟩ hs)
/-- the numbers that stand behind the values of a tuple, by their places -/
theorem num_at {ns : List Int} {its : List Value} (r : Vals (ns.map V.int) its) {i : Nat} {v : Value} (e : its.toArray[i]? = some v) : i < ns.length ∧ ∃ t, v = .int (ns.getD i 0) t := by
  have e' : its[i]? = some v := by simpa using e
  obtain ⟨hi, _⟩ := List.getElem?_eq_some_iff.mp e'
  have hl := r.length
  rw [List.length_map] at hl
  have hn : i < ns.length := by omega
  obtain ⟨u, eu, ru⟩ := r.get (i := i) (x := .int (ns.getD i 0)) (by rw [List.getElem?_map, getDI_at hn]; rfl)
  rw [e'] at eu
  cases eu
  exact ⟨hn, ru⟩
def rMaxA (K : PySem.W.Frag) : List V → Hp → VK → Prop := fun vs H Q => ∃ (a : Addr) (ns : List Int), vs = [V.ref a] ∧ SqA K H a (ns.map V.int) ∧ 0 < ns.length ∧ ∀ m, m ∈ ns → (∀ y, y ∈ ns → y ≤ m) → Q (.int m) H
theorem cr_maxA (hc : X.calm = true) : CallR X (.builtin "max") (rMaxA X.K) := by
  rintro pins s σ H vs us Q I r ⟨a, ns, rfl, hs | hs, pos, q⟩
  · exact cr_max hc pins s σ H _ us Q I r ⟨a, ns, rfl, hs, pos, q⟩
  rw [Vals.ref1 r]
  obtain ⟨its, rv, tl, _⟩ := I.tuple hs
  have lt : a < s.heap.objs.size := by
    obtain ⟨_, eo, _⟩ := tl
    exact Heap.lt_size eo
  have len := rv.length
  rw [List.length_map] at len
  have size : its.toArray.size = ns.length := by rw [List.size_toArray, len]
  have better := argBest_gt (fun i => ns.getD i 0) (its.toArray.size - 1)
  refine call_max_walk (wpAny_pyIter_tuple tl ⟨s.heap.objs.size, [s.heap.objs.size, a], [s.heap.objs.size], its.toArray.size, _, _, _, rfl, Walks.tuple (A := X.A.in1) (I.ok.hd hc) _ a (Nat.ne_of_lt lt) its.toArray,
    ⟨⟨_, Heap.get?_push_size _ rfl, rfl, rfl⟩, tl.push _⟩, fun b hb => ?_, by rw [size]; exact pos, CmpOf.ints_gt (fun i => ns.getD i 0) (fun _ _ e => (num_at rv e).2), fun v h' tk hv hk => ?_⟩)
  · have z : b = s.heap.objs.size ∨ b = a := by simpa using hb
    show b < (s.heap.push _).objs.size
    rw [Heap.size_push]
    exact z.elim (fun z => z ▸ Nat.lt_succ_self _) (fun z => z ▸ Nat.lt_succ_of_lt lt)
  · obtain ⟨hb, t, rfl⟩ := num_at rv hv
    refine ⟨.int _, H, I.kept fun b o e => hk b o (fun z => ?_) (Heap.get?_push_of_some _ e), ⟨t, rfl⟩, q _ (List.mem_of_getElem? (getDI_at hb)) fun y hy => ?_⟩
    · have old := Heap.lt_size e
      rw [List.mem_singleton.mp z] at old
      exact Nat.lt_irrefl _ old
    · obtain ⟨j, hj⟩ := List.mem_iff_getElem?.mp hy
      obtain ⟨hl, _⟩ := List.getElem?_eq_some_iff.mp hj
      have more : ns.getD j 0 ≤ _ := better.2 j (by omega)
      rw [getDI_at hl] at hj
      rw [← Option.some.inj hj]
      exact more
end
end Mte
/-! ### How many ways there are to be in groups -/
namespace Mte
open Ks565 (Folk)
theorem snoc_ind {α : Type} {p : List α → Prop} (h0 : p []) (h1 : ∀ l x, p l → p (l ++ [x])) (l : List α) : p l := by
  have aux : ∀ (r pre : List α), p pre → p (pre ++ r) := by
    intro r
    induction r with
    | nil =>
      intro pre h
      rw [List.append_nil]
      exact h
    | cons y r ih =>
      intro pre h
      rw [show pre ++ y :: r = (pre ++ [y]) ++ r from by rw [List.append_assoc]; rfl]
      exact ih _ (h1 pre y h)
  exact aux l [] h0
theorem top_number (g : List Nat) : g ≠ [] → ∃ y ∈ tidyUp g, y + 1 = (firsts g).length := by
  refine snoc_ind (p := fun g => g ≠ [] → ∃ y ∈ tidyUp g, y + 1 = (firsts g).length) (fun h => absurd rfl h) (fun l x ih _ => ?_) g
  by_cases c : x ∈ firsts l
  · rw [tidyUp_in c, firsts_in c]
    obtain ⟨y, hy, e⟩ := ih (fun z => by rw [z] at c; cases c)
    exact ⟨y, List.mem_append_left _ hy, e⟩
  · rw [tidyUp_new c, firsts_new c]
    exact ⟨(firsts l).length, List.mem_append_right _ (List.mem_singleton.mpr rfl), by rw [List.length_append]; rfl⟩
theorem mem_all (g : List Nat) : Ks565.tidy g ∈ Ks565.all g.length := by
  rw [tidy_up]
  refine snoc_ind (p := fun g => tidyUp g ∈ Ks565.all g.length) (List.mem_singleton.mpr rfl) (fun l x ih => ?_) g
  rw [List.length_append]
  show tidyUp (l ++ [x]) ∈ (Ks565.all l.length).flatMap fun g => (List.range ((g.map (· + 1)).foldl max 0 + 1)).map fun x => g ++ [x]
  rw [List.mem_flatMap]
  refine ⟨tidyUp l, ih, List.mem_map.mpr ?_⟩
  have big : (firsts l).length ≤ ((tidyUp l).map (· + 1)).foldl max 0 := by
    by_cases c : l = []
    · rw [c]
      exact Nat.zero_le _
    · obtain ⟨y, hy, e⟩ := top_number l c
      rw [← e]
      exact (le_foldl_max _ 0).2 _ (List.mem_map.mpr ⟨y, hy, rfl⟩)
  by_cases c : x ∈ firsts l
  · exact ⟨_, List.mem_range.mpr (Nat.lt_succ_of_le (Nat.le_trans (Nat.le_of_lt (idx_lt c)) big)), (tidyUp_in c).symm⟩
  · exact ⟨_, List.mem_range.mpr (Nat.lt_succ_of_le big), (tidyUp_new c).symm⟩
theorem len_le_of_sub {α : Type} [DecidableEq α] : ∀ (l m : List α), l.Nodup → (∀ x ∈ l, x ∈ m) → l.length ≤ m.length
  | [], _, _, _ => Nat.zero_le _
  | x :: l, m, hn, hs => by
    rw [List.nodup_cons] at hn
    have hx : x ∈ m := hs x (List.mem_cons_self ..)
    have ih := len_le_of_sub l (m.erase x) hn.2 fun y hy => by
      have ne : y ≠ x := fun z => hn.1 (z ▸ hy)
      exact (List.mem_erase_of_ne ne).mpr (hs y (List.mem_cons_of_mem _ hy))
    rw [List.length_erase_of_mem hx] at ih
    have pos : 0 < m.length := List.length_pos_of_mem hx
    rw [List.length_cons]
    omega
theorem all_len {n : Nat} (h : n ≤ 5) : (Ks565.all n).length ≤ 52 := by
  have e : n = 0 ∨ n = 1 ∨ n = 2 ∨ n = 3 ∨ n = 4 ∨ n = 5 := by omega
  rcases e with rfl | rfl | rfl | rfl | rfl | rfl <;> decide +kernel
/-- groups as they are numbered, of n people -/
def Tid (n : Nat) (x : List Nat) : Prop := ∃ g : List Nat, g.length = n ∧ x = Ks565.tidy g
theorem Tid.len {n : Nat} {x : List Nat} (h : Tid n x) : x.length = n := by
  obtain ⟨g, hg, rfl⟩ := h
  rw [tidy_length, hg]
theorem Tid.lt {n : Nat} {x : List Nat} (h : Tid n x) : ∀ y ∈ x, y < n := by
  obtain ⟨g, hg, rfl⟩ := h
  exact fun y hy => hg ▸ tidy_lt hy
theorem Tid.go {n : Nat} {x : List Nat} (h : Tid n x) (i k : Nat) : Tid n (Ks565.go x i k) := ⟨x.set i k, by rw [List.length_set]; exact h.len, rfl⟩
theorem few {n : Nat} (h : n ≤ 5) {l : List (List Nat)} (hn : l.Nodup) (ht : ∀ x ∈ l, Tid n x) : l.length ≤ 52 :=
  Nat.le_trans (len_le_of_sub l (Ks565.all n) hn fun x hx => by
    obtain ⟨g, hg, e⟩ := ht x hx
    rw [e, ← hg]
    exact mem_all g) (all_len h)
end Mte
/-! ### A run, between two turns -/
namespace Mte
open Ks565 (Folk)
theorem run_turn (t : Folk) (w f : Nat) (g : List Nat) (past : List (List Nat)) : Ks567.run t w (f + 1) g past = match firstMove t w g with
    | none => (past.length, true, g)
    | some (i, k) => if (past ++ [g]).contains (Ks565.go g i k) then (past.length + 1, false, Ks565.go g i k) else Ks567.run t w f (Ks565.go g i k) (past ++ [g]) := by
  rw [Ks567.run, step_is]
  cases firstMove t w g with
  | none => rfl
  | some p => rfl
structure RI (t : Folk) (w : Nat) (r : Nat × Bool × List Nat) (past : List (List Nat)) (g : List Nat) : Prop where
  nd : past.Nodup
  ti : ∀ x ∈ past, Tid t.n x
  tg : Tid t.n g
  old : g ∈ past → r = (past.length, false, g)
  new : ¬ g ∈ past → r = Ks567.run t w (60 - past.length) g past
theorem RI.start {t : Folk} {w : Nat} {g : List Nat} (h : Tid t.n g) : RI t w (Ks567.run t w 60 g []) [] g :=
  ⟨List.nodup_nil, fun x hx => (by cases hx), h, fun z => (by cases z), fun _ => rfl⟩
theorem RI.few {t : Folk} {w : Nat} {r : Nat × Bool × List Nat} {past : List (List Nat)} {g : List Nat} (R : RI t w r past g) (h5 : t.n ≤ 5) (c : ¬ g ∈ past) : past.length < 52 := by
  have h := Mte.few (l := g :: past) h5 (List.nodup_cons.mpr ⟨c, R.nd⟩) fun x hx => by
    rcases List.mem_cons.mp hx with z | z
    · rw [z]
      exact R.tg
    · exact R.ti x z
  rw [List.length_cons] at h
  omega
theorem RI.rest {t : Folk} {w : Nat} {r : Nat × Bool × List Nat} {past : List (List Nat)} {g : List Nat} (R : RI t w r past g) (h5 : t.n ≤ 5) (c : ¬ g ∈ past) (e : firstMove t w g = none) : r = (past.length, true, g) := by
  have f := R.few h5 c
  have q := R.new c
  rw [show 60 - past.length = (59 - past.length) + 1 from by omega, run_turn, e] at q
  exact q
theorem RI.move {t : Folk} {w : Nat} {r : Nat × Bool × List Nat} {past : List (List Nat)} {g : List Nat} {i k : Nat} (R : RI t w r past g) (h5 : t.n ≤ 5) (c : ¬ g ∈ past) (e : firstMove t w g = some (i, k)) : RI t w r (past ++ [g]) (Ks565.go g i k) := by
  have f := R.few h5 c
  have q := R.new c
  rw [show 60 - past.length = (59 - past.length) + 1 from by omega, run_turn, e] at q
  dsimp only at q
  refine ⟨?_, fun x hx => ?_, R.tg.go i k, fun z => ?_, fun z => ?_⟩
  · rw [List.nodup_append]
    refine ⟨R.nd, (List.nodup_cons.mpr ⟨fun z => (by cases z), List.nodup_nil⟩), fun a ha b hb z => ?_⟩
    rw [List.mem_singleton.mp hb] at z
    exact c (z ▸ ha)
  · rcases List.mem_append.mp hx with z | z
    · exact R.ti x z
    · rw [List.mem_singleton.mp z]
      exact R.tg
  · rw [if_pos (by simpa using z)] at q
    rw [q, List.length_append]
    rfl
  · rw [if_neg (by simpa using z)] at q
    rw [q, List.length_append]
    rw [show 60 - (past.length + [g].length) = 59 - past.length from by show 60 - (past.length + 1) = 59 - past.length; omega]
end Mte
namespace Mte
open PySem PySem.Spec PyProof.Rows L2
open Ks565 (Folk)
/-! ### The text by places -/
def top (i : Nat) : Stmt := PySem.Challenge.pw_movesthatend_s02_run.main.body.getD i (.Pass ⟨0, 0, 0, 0⟩)
def optV : Option Nat → V
  | none => .non
  | some k => .int k
def okW (n : Nat) (v : List Int) : Prop := 1 ≤ n ∧ n ≤ 5 ∧ v.length = n * n ∧ ∀ x ∈ v, -20 ≤ x ∧ x ≤ 20
def okG (n : Nat) (g : List Nat) : Prop := g.length = n ∧ ∀ x ∈ g, x < n
structure TxtW (mg : Str → Option Value) : Prop where
  range : mg "range" = none
  len : mg "len" = none
  people : GI mg "MOST_PEOPLE" 5
  most : GI mg "MOST_WORTH" 20
  refused : GI mg "REFUSED" (-22)
structure Txt (mg : Str → Option Value) : Prop extends TxtW mg where
  max : mg "max" = none
  list : mg "list" = none
  wel : GI mg "WHERE_WELCOME" 1
  lgo : GI mg "WHERE_LET_GO" 2
  last : GI mg "LAST_WAY" 2
theorem nv_ints (g : List Nat) : nv g = (Ks565.ints g).map V.int := by
  unfold nv Ks565.ints
  rw [List.map_map]
  rfl
theorem nv_set (g : List Nat) (i k : Nat) : (nv g).set i (.int k) = nv (g.set i k) := by
  unfold nv
  rw [List.map_set]
theorem ixN_nat {n i : Nat} (h : i < n) : ixN n (i : Int) = some i := by
  unfold ixN
  rw [if_pos (by omega), if_pos (by omega)]
  rfl
theorem _root_.L2.Same.new {H : Hp} {p : Addr} {o : HO} (h : H p = none) : Same H (upd H p o) := fun b u e => by
  rw [upd_ne (ne_of_none e h)]
  exact e
theorem _root_.L2.Same.newer {H H' : Hp} {p : Addr} {o : HO} (s : Same H H') (h : H p = none) : Same H (upd H' p o) := fun b u e => by
  rw [upd_ne (ne_of_none e h)]
  exact s b u e
end Mte
namespace Mte
open PySem PySem.Spec PyProof.Rows L2
open Ks565 (Folk)
abbrev sHas : Stmt := top 11
def spHas (K : PySem.W.Frag) : Sp := fun vs H Q _ => ∃ (aw ag : Addr) (t : Folk) (g : List Nat) (i k : Nat), vs = [.int t.n, .ref aw, .ref ag, .int i, .int k] ∧ SqL K H aw (t.v.map V.int) ∧ SqA K H ag (nv g) ∧ Ok t g ∧ i < t.n ∧ Q (.int (hasW t g i k)) H
section
variable {P : Program} {w : World} {K : PySem.W.Frag} {mg : Str → Option Value} {base : Heap}
theorem scHas : FnScope ["n", "worth", "groups", "person", "number", "together", "other"] ["n", "worth", "groups", "person", "number"] (defScope sHas) := ⟨rfl, rfl, rfl, by decide +kernel, rfl, by decide +kernel, by decide +kernel⟩
theorem ok_has (D : Dfx K mg "has_with" sHas ["n", "worth", "groups", "person", "number"]) (T : TxtW mg) : Cal P w K mg base 1 "has_with" ["n", "worth", "groups", "person", "number"] (spHas K) := by
  refine D.ok scHas (fun vs H Q E h => ?_) (fun f cdv A outer s H vs Q E hr h => ?_)
  · obtain ⟨aw, ag, t, g, i, k, rfl, _⟩ := h
    rfl
  · obtain ⟨aw, ag, t, g, i, k, rfl, hW, hG, O, hi, q⟩ := h
    have n5 := O.n5
    refine ⟨_, pss_cons (ps_set (i := 5) scHas.nd rfl (Or.inl rfl) pe_int)
      (pss_cons (ps_for PassesOwn.never rfl (pi_range1 rfl T.range (pa_cons (pv 0) pa_nil)) (pg_name (i := 6) scHas.nd rfl (Or.inl rfl))
        (pss_one (ps_if (PW.pt (pw_and (pt_cmpR op_ne (pv 6) (pv 3) (nomark _)) (pw_and1 (pt_cmpR op_eq (pe_ix ix_any (pv 2) (pv 6) (fun _ _ => rfl)) (pv 4) (nomark _)))))
          (pss_one (ps_aug (i := 5) scHas.nd rfl (Or.inl rfl) (pe_ix ix_list (pv 1) (pe_op op_add (pe_op op_mul (pv 3) (pv 0)) (pv 6)) (fun _ _ => rfl)) ip_add)) pss_nil)))
      (pss_one (ps_ret (pv 5)))), ?_⟩
    refine ⟨_, rfl, (t.n : Int), rfl, by omega, by omega, for_range (lo := 0) (n := t.n) (fun j σ H' => H' = H ∧ ∃ o : Option V, σ = [some (.int t.n), some (.ref aw), some (.ref ag), some (.int i), some (.int k), some (.int (hasUp t g i k j)), o]) ⟨rfl, none, rfl⟩ ?_ ?_⟩
    · rintro j σ H' hj ⟨rfl, o, rfl⟩
      rw [Int.zero_add]
      refine ⟨_, rfl, _, rfl, rfl, _, rfl, ?_⟩
      by_cases c : j = i
      · refine if_nf (veq c) (iteF ⟨rfl, some (.int (j : Nat)), ?_⟩)
        have e : hasUp t g i k (j + 1) = hasUp t g i k j := by
          by_cases d : g.getD j 0 = k
          · rw [hasUp_in d, c, likes_self, Int.add_zero]
          · exact hasUp_out d
        rw [e]
        rfl
      · refine if_nt (vne c) ?_
        refine ⟨_, rfl, _, rfl, ag, _, _, _, rfl, rfl, hG, O.gat hj, _, rfl, rfl, _, rfl, ?_⟩
        by_cases d : g.getD j 0 = k
        · refine if_t (veq d) ?_
          refine ⟨_, rfl, _, rfl, _, rfl, _, rfl, _, _, rfl, rfl, mul_small (by omega), _, rfl, _, _, rfl, rfl, aw, _, _, _, rfl, rfl, hW, O.vat hi hj, _, _, rfl, rfl, rfl, some (.int (j : Nat)), ?_⟩
          rw [hasUp_in d, likes_ne (fun z => c z.symm)]
          rfl
        · refine if_f (vne d) ⟨rfl, some (.int (j : Nat)), ?_⟩
          rw [hasUp_out d]
          rfl
    · rintro σ H' ⟨rfl, o, rfl⟩
      refine ⟨_, rfl, ?_⟩
      rw [hasUp_all O.hg]
      exact q
end
end Mte
namespace Mte
open PySem PySem.Spec PyProof.Rows L2
open Ks565 (Folk)
abbrev sWel : Stmt := top 12
def spWel (K : PySem.W.Frag) : Sp := fun vs H Q _ => ∃ (aw ag : Addr) (t : Folk) (g : List Nat) (i k : Nat), vs = [.int t.n, .ref aw, .ref ag, .int i, .int k] ∧ SqL K H aw (t.v.map V.int) ∧ SqA K H ag (nv g) ∧ Ok t g ∧ i < t.n ∧ ¬ g.getD i 0 = k ∧ Q (.bl (Ks565.welcome t g i k)) H
section
variable {P : Program} {w : World} {K : PySem.W.Frag} {mg : Str → Option Value} {base : Heap}
theorem scWel : FnScope ["n", "worth", "groups", "person", "number", "other"] ["n", "worth", "groups", "person", "number"] (defScope sWel) := ⟨rfl, rfl, rfl, by decide +kernel, rfl, by decide +kernel, by decide +kernel⟩
theorem ok_wel (D : Dfx K mg "is_welcome" sWel ["n", "worth", "groups", "person", "number"]) (T : Txt mg) : Cal P w K mg base 1 "is_welcome" ["n", "worth", "groups", "person", "number"] (spWel K) := by
  refine D.ok scWel (fun vs H Q E h => ?_) (fun f cdv A outer s H vs Q E hr h => ?_)
  · obtain ⟨aw, ag, t, g, i, k, rfl, _⟩ := h
    rfl
  · obtain ⟨aw, ag, t, g, i, k, rfl, hW, hG, O, hi, hk, q⟩ := h
    have n5 := O.n5
    refine ⟨_, pss_cons (ps_for PassesOwn.never rfl (pi_range1 rfl T.range (pa_cons (pv 0) pa_nil)) (pg_name (i := 5) scWel.nd rfl (Or.inl rfl))
        (pss_one (ps_if (PW.pt (pw_and (pt_cmpR op_eq (pe_ix ix_any (pv 2) (pv 5) (fun _ _ => rfl)) (pv 4) (nomark _))
          (pw_and1 (pt_cmpR op_lt (pe_ix ix_list (pv 1) (pe_op op_add (pe_op op_mul (pv 5) (pv 0)) (pv 3)) (fun _ _ => rfl)) pe_int (nomark _)))))
          (pss_one (ps_ret pe_bl)) pss_nil)))
      (pss_one (ps_ret pe_bl)), ?_⟩
    refine ⟨_, rfl, (t.n : Int), rfl, by omega, by omega, for_range (lo := 0) (n := t.n) (fun j σ H' => H' = H ∧ (∀ o, o < j → g.getD o 0 = k → 0 ≤ Ks565.likes t o i) ∧ ∃ o : Option V, σ = [some (.int t.n), some (.ref aw), some (.ref ag), some (.int i), some (.int k), o])
      ⟨rfl, fun o ho => absurd ho (Nat.not_lt_zero o), none, rfl⟩ ?_ ?_⟩
    · rintro j σ H' hj ⟨rfl, up, o, rfl⟩
      rw [Int.zero_add]
      refine ⟨_, rfl, _, rfl, ag, _, _, _, rfl, rfl, hG, O.gat hj, _, rfl, rfl, _, rfl, ?_⟩
      by_cases d : g.getD j 0 = k
      · have c : ¬ j = i := fun z => hk (z ▸ d)
        refine if_t (veq d) ?_
        refine ⟨_, rfl, _, rfl, _, rfl, _, _, rfl, rfl, mul_small (by omega), _, rfl, _, _, rfl, rfl, aw, _, _, _, rfl, rfl, hW, O.vat hj hi, _, _, rfl, rfl, _, rfl, ?_⟩
        by_cases e : t.v.getD (j * t.n + i) 0 < 0
        · refine if_t e ?_
          have z : Ks565.welcome t g i k = false := welcome_false O.hg hj d (by rw [likes_ne c]; exact e)
          rw [z] at q
          exact q
        · refine if_f e ⟨rfl, fun o' ho' hg' => ?_, _, rfl⟩
          by_cases z : o' < j
          · exact up o' z hg'
          · have y : o' = j := by omega
            subst y
            rw [likes_ne c]
            omega
      · refine if_f (vne d) (iteF ⟨rfl, fun o' ho' hg' => ?_, _, rfl⟩)
        by_cases z : o' < j
        · exact up o' z hg'
        · have y : o' = j := by omega
          subst y
          exact absurd hg' d
    · rintro σ H' ⟨rfl, up, o, rfl⟩
      rw [welcome_true O.hg up] at q
      exact q
end
end Mte
namespace Mte
open PySem PySem.Spec PyProof.Rows L2
open Ks565 (Folk)
abbrev sLet : Stmt := top 13
def spLet (K : PySem.W.Frag) : Sp := fun vs H Q _ => ∃ (aw ag : Addr) (t : Folk) (g : List Nat) (i : Nat), vs = [.int t.n, .ref aw, .ref ag, .int i] ∧ SqL K H aw (t.v.map V.int) ∧ SqA K H ag (nv g) ∧ Ok t g ∧ i < t.n ∧ Q (.bl (Ks565.letGo t g i)) H
section
variable {P : Program} {w : World} {K : PySem.W.Frag} {mg : Str → Option Value} {base : Heap}
theorem scLet : FnScope ["n", "worth", "groups", "person", "other"] ["n", "worth", "groups", "person"] (defScope sLet) := ⟨rfl, rfl, rfl, by decide +kernel, rfl, by decide +kernel, by decide +kernel⟩
theorem ok_let (D : Dfx K mg "is_let_go" sLet ["n", "worth", "groups", "person"]) (T : Txt mg) : Cal P w K mg base 1 "is_let_go" ["n", "worth", "groups", "person"] (spLet K) := by
  refine D.ok scLet (fun vs H Q E h => ?_) (fun f cdv A outer s H vs Q E hr h => ?_)
  · obtain ⟨aw, ag, t, g, i, rfl, _⟩ := h
    rfl
  · obtain ⟨aw, ag, t, g, i, rfl, hW, hG, O, hi, q⟩ := h
    have n5 := O.n5
    refine ⟨_, pss_cons (ps_for PassesOwn.never rfl (pi_range1 rfl T.range (pa_cons (pv 0) pa_nil)) (pg_name (i := 4) scLet.nd rfl (Or.inl rfl))
        (pss_one (ps_if (PW.pt (pw_and (pt_cmpR op_ne (pv 4) (pv 3) (nomark _)) (pw_and (pt_cmpR op_eq (pe_ix ix_any (pv 2) (pv 4) (fun _ _ => rfl)) (pe_ix ix_any (pv 2) (pv 3) (fun _ _ => rfl)) (nomark _))
          (pw_and1 (pt_cmpR op_gt (pe_ix ix_list (pv 1) (pe_op op_add (pe_op op_mul (pv 4) (pv 0)) (pv 3)) (fun _ _ => rfl)) pe_int (nomark _))))))
          (pss_one (ps_ret pe_bl)) pss_nil)))
      (pss_one (ps_ret pe_bl)), ?_⟩
    refine ⟨_, rfl, (t.n : Int), rfl, by omega, by omega, for_range (lo := 0) (n := t.n) (fun j σ H' => H' = H ∧ (∀ o, o < j → o ≠ i → g.getD o 0 = g.getD i 0 → Ks565.likes t o i ≤ 0) ∧ ∃ o : Option V, σ = [some (.int t.n), some (.ref aw), some (.ref ag), some (.int i), o])
      ⟨rfl, fun o ho => absurd ho (Nat.not_lt_zero o), none, rfl⟩ ?_ ?_⟩
    · rintro j σ H' hj ⟨rfl, up, o, rfl⟩
      rw [Int.zero_add]
      have more : (j ≠ i → g.getD j 0 = g.getD i 0 → Ks565.likes t j i ≤ 0) → ∀ o', o' < j + 1 → o' ≠ i → g.getD o' 0 = g.getD i 0 → Ks565.likes t o' i ≤ 0 := fun hh o' ho' h1 h2 => by
        by_cases z : o' < j
        · exact up o' z h1 h2
        · have y : o' = j := by omega
          subst y
          exact hh h1 h2
      refine ⟨_, rfl, _, rfl, rfl, _, rfl, ?_⟩
      by_cases c : j = i
      · exact if_nf (veq c) (iteF ⟨rfl, more (fun z => absurd c z), _, rfl⟩)
      · refine if_nt (vne c) ?_
        refine ⟨_, rfl, _, rfl, ag, _, _, _, rfl, rfl, hG, O.gat hj, _, rfl, _, rfl, ag, _, _, _, rfl, rfl, hG, O.gat hi, rfl, _, rfl, ?_⟩
        by_cases d : g.getD j 0 = g.getD i 0
        · refine if_t (veq d) ?_
          refine ⟨_, rfl, _, rfl, _, rfl, _, _, rfl, rfl, mul_small (by omega), _, rfl, _, _, rfl, rfl, aw, _, _, _, rfl, rfl, hW, O.vat hj hi, _, _, rfl, rfl, _, rfl, ?_⟩
          by_cases e : 0 < t.v.getD (j * t.n + i) 0
          · refine if_t e ?_
            have z : Ks565.letGo t g i = false := letGo_false O.hg hj c d (by rw [likes_ne c]; exact e)
            rw [z] at q
            exact q
          · refine if_f e ⟨rfl, more (fun _ _ => ?_), _, rfl⟩
            rw [likes_ne c]
            omega
        · exact if_f (vne d) (iteF ⟨rfl, more (fun _ z => absurd z d), _, rfl⟩)
    · rintro σ H' ⟨rfl, up, o, rfl⟩
      rw [letGo_true O.hg up] at q
      exact q
end
end Mte
namespace Mte
open PySem PySem.Spec PyProof.Rows L2
open Ks565 (Folk)
abbrev sMay : Stmt := top 14
def spMay (K : PySem.W.Frag) : Sp := fun vs H Q _ => ∃ (aw ag : Addr) (t : Folk) (g : List Nat) (w i k : Nat), vs = [.int t.n, .int w, .ref aw, .ref ag, .int i, .int k] ∧ SqL K H aw (t.v.map V.int) ∧ SqA K H ag (nv g) ∧ Ok t g ∧ i < t.n ∧ w ≤ 2 ∧ k ≤ Ks565.groups g ∧ Q (.bl (Ks565.may t w g i k)) H
section
variable {P : Program} {w : World} {K : PySem.W.Frag} {mg : Str → Option Value} {base : Heap}
theorem scMay : FnScope ["n", "w", "worth", "groups", "person", "number"] ["n", "w", "worth", "groups", "person", "number"] (defScope sMay) := ⟨rfl, rfl, rfl, by decide +kernel, rfl, by decide +kernel, by decide +kernel⟩
theorem ok_may (D : Dfx K mg "may_go" sMay ["n", "w", "worth", "groups", "person", "number"]) (T : Txt mg) (CH : Cal P w K mg base 1 "has_with" ["n", "worth", "groups", "person", "number"] (spHas K))
    (CW : Cal P w K mg base 1 "is_welcome" ["n", "worth", "groups", "person", "number"] (spWel K)) (CL : Cal P w K mg base 1 "is_let_go" ["n", "worth", "groups", "person"] (spLet K)) : Cal P w K mg base 2 "may_go" ["n", "w", "worth", "groups", "person", "number"] (spMay K) := by
  refine D.ok scMay (fun vs H Q E h => ?_) (fun f cdv A outer s H vs Q E hr h => ?_)
  · obtain ⟨aw, ag, t, g, w', i, k, rfl, _⟩ := h
    rfl
  · obtain ⟨aw, ag, t, g, w', i, k, rfl, hW, hG, O, hi, hw, hk, q⟩ := h
    refine ⟨_, pss_cons (ps_if (pt_cmpR op_le (pe_cal CH hr rfl (pa_cons (pv 0) (pa_cons (pv 2) (pa_cons (pv 3) (pa_cons (pv 4) (pa_cons (pv 5) pa_nil))))))
          (pe_cal CH hr rfl (pa_cons (pv 0) (pa_cons (pv 2) (pa_cons (pv 3) (pa_cons (pv 4) (pa_cons (pe_ix ix_any (pv 3) (pv 4) (fun _ _ => rfl)) pa_nil)))))) (nomark _)) (pss_one (ps_ret pe_bl)) pss_nil)
      (pss_cons (ps_if (PW.pt (pw_and (pt_cmpR op_ge (pv 1) (pe_gi rfl T.wel) (nomark _)) (pw_and1 (pt_not (pt_val (pe_cal CW hr rfl (pa_cons (pv 0) (pa_cons (pv 2) (pa_cons (pv 3) (pa_cons (pv 4) (pa_cons (pv 5) pa_nil))))))))))) (pss_one (ps_ret pe_bl)) pss_nil)
      (pss_cons (ps_if (PW.pt (pw_and (pt_cmpR op_ge (pv 1) (pe_gi rfl T.lgo) (nomark _)) (pw_and1 (pt_not (pt_val (pe_cal CL hr rfl (pa_cons (pv 0) (pa_cons (pv 2) (pa_cons (pv 3) (pa_cons (pv 4) pa_nil)))))))))) (pss_one (ps_ret pe_bl)) pss_nil)
      (pss_one (ps_ret pe_bl)))), ?_⟩
    refine ⟨_, rfl, _, rfl, _, rfl, _, rfl, _, rfl, aw, ag, t, g, i, k, rfl, hW, hG, O, hi, ?_⟩
    refine ⟨_, rfl, _, rfl, _, rfl, _, rfl, _, rfl, _, rfl, ag, _, _, _, rfl, rfl, hG, O.gat hi, aw, ag, t, g, i, g.getD i 0, rfl, hW, hG, O, hi, _, _, rfl, rfl, _, rfl, ?_⟩
    by_cases c : hasW t g i k ≤ hasW t g i (g.getD i 0)
    · refine if_t c ?_
      rw [may_less c] at q
      exact q
    · refine if_f c ?_
      have hr1 := rather_true hk c
      -- the way's last test
      have last : (w' = 0 ∨ Ks565.welcome t g i k = true) → (tSeq (tIfS (tAnd (tTest (tOp (rI0 fun i j => .bl (decide (j ≤ i))) (tVar 1) (tC (.int 2)))) (tNot (tB (tCall (spLet K) [] E0 (tCons (tVar 0) (tCons (tVar 2) (tCons (tVar 3) (tCons (tVar 4) tNil)))))))) (tRet (tC (.bl false))) tNext) (tRet (tC (.bl true))))
          { nx := fun _ H' => Q .non H', rt := Q } [some (.int t.n), some (.int w'), some (.ref aw), some (.ref ag), some (.int i), some (.int k)] H := fun h1 => by
        refine ⟨_, rfl, _, _, rfl, rfl, _, rfl, ?_⟩
        by_cases d : (2 : Int) ≤ (w' : Int)
        · refine if_t d ?_
          refine ⟨_, rfl, _, rfl, _, rfl, _, rfl, aw, ag, t, g, i, rfl, hW, hG, O, hi, _, rfl, ?_⟩
          cases e : Ks565.letGo t g i with
          | false =>
            refine iteT ?_
            rw [may_not_letGo (by omega) e] at q
            exact q
          | true =>
            refine iteF ?_
            rw [may_yes hr1 h1 (.inr e)] at q
            exact q
        · refine if_f d (iteF ?_)
          rw [may_yes hr1 h1 (.inl (by omega))] at q
          exact q
      refine ⟨_, rfl, _, _, rfl, rfl, _, rfl, ?_⟩
      by_cases d : (1 : Int) ≤ (w' : Int)
      · refine if_t d ?_
        refine ⟨_, rfl, _, rfl, _, rfl, _, rfl, _, rfl, aw, ag, t, g, i, k, rfl, hW, hG, O, hi, ne_of_more c, _, rfl, ?_⟩
        cases e : Ks565.welcome t g i k with
        | false =>
          refine iteT ?_
          rw [may_not_welcome (by omega) e] at q
          exact q
        | true =>
          refine iteF ?_
          exact last (.inr e)
      · refine if_f d (iteF ?_)
        exact last (.inl (by omega))
end
end Mte
namespace Mte
open PySem PySem.Spec PyProof.Rows L2
open Ks565 (Folk)
abbrev sWhe : Stmt := top 15
def ksUp (t : Folk) (w : Nat) (g : List Nat) (i j : Nat) : List Nat := (List.range j).filter fun k => Ks565.may t w g i k
theorem ksUp_yes {t : Folk} {w : Nat} {g : List Nat} {i j : Nat} (h : Ks565.may t w g i j = true) : ksUp t w g i (j + 1) = ksUp t w g i j ++ [j] := by
  unfold ksUp
  rw [List.range_succ, List.filter_append, List.filter_cons, if_pos h]
  rfl
theorem ksUp_no {t : Folk} {w : Nat} {g : List Nat} {i j : Nat} (h : Ks565.may t w g i j = false) : ksUp t w g i (j + 1) = ksUp t w g i j := by
  unfold ksUp
  rw [List.range_succ, List.filter_append, List.filter_cons, if_neg (by rw [h]; exact Bool.false_ne_true)]
  exact List.append_nil _
theorem ksUp_len (t : Folk) (w : Nat) (g : List Nat) (i j : Nat) : (ksUp t w g i j).length ≤ j := by
  unfold ksUp
  exact Nat.le_trans (List.length_filter_le _ _) (by rw [List.length_range]; exact Nat.le_refl _)
theorem nv_snoc (g : List Nat) (x : Nat) : nv (g ++ [x]) = nv g ++ [.int (x : Nat)] := by
  unfold nv
  rw [List.map_append]
  rfl
/-- the numbers of the groups one may go to, in a new list -/
def spWhe (K : PySem.W.Frag) : Sp := fun vs H Q _ => ∃ (aw ag : Addr) (t : Folk) (g : List Nat) (w i : Nat), vs = [.int t.n, .int w, .ref aw, .ref ag, .int i] ∧ SqL K H aw (t.v.map V.int) ∧ SqA K H ag (nv g) ∧ Ok t g ∧ i < t.n ∧ w ≤ 2 ∧ (∀ x ∈ g, x < t.n) ∧
  ∀ p, H p = none → Q (.ref p) (upd H p (.lst (nv (ks t w g i))))
section
variable {P : Program} {w : World} {K : PySem.W.Frag} {mg : Str → Option Value} {base : Heap}
theorem scWhe : FnScope ["n", "w", "worth", "groups", "person", "alone", "number"] ["n", "w", "worth", "groups", "person"] (defScope sWhe) := ⟨rfl, rfl, rfl, by decide +kernel, rfl, by decide +kernel, by decide +kernel⟩
theorem ok_whe (D : Dfx K mg "where_one_may_go" sWhe ["n", "w", "worth", "groups", "person"]) (T : Txt mg) (CM : Cal P w K mg base 2 "may_go" ["n", "w", "worth", "groups", "person", "number"] (spMay K)) :
    Cal P w K mg base 3 "where_one_may_go" ["n", "w", "worth", "groups", "person"] (spWhe K) := by
  refine D.ok scWhe (fun vs H Q E h => ?_) (fun f cdv A outer s H vs Q E hr h => ?_)
  · obtain ⟨aw, ag, t, g, w', i, rfl, _⟩ := h
    rfl
  · obtain ⟨aw, ag, t, g, w', i, rfl, hW, hG, O, hi, hw, hx, q⟩ := h
    have n5 := O.n5
    refine ⟨_, pss_cons (ps_set (i := 5) scWhe.nd rfl (Or.inl rfl) (pe_op op_add (pe_callB (cr_maxA rfl) (by rfl) T.max (by decide +kernel) (pa_cons (pv 3) pa_nil)) pe_int))
      (pss_one (ps_ret (pe_lc (own := [("number", 6)]) (g := gName 6) rfl scWhe.nd (pi_range1 rfl T.range (pa_cons (pe_op op_add (pv 5) pe_int) pa_nil))
        (blkOk_by (own := [("number", 6)]) (N := ["n", "w", "worth", "groups", "person", "alone", "number"]) (sc := defScope sWhe) (by decide +kernel)) (fun _ _ _ _ _ => pg_name (i := 6) scWhe.nd rfl (Or.inl rfl))
        (fun _ _ _ _ _ => pts_one (pt_val (pe_cal CM hr rfl (pa_cons (pv 0) (pa_cons (pv 1) (pa_cons (pv 2) (pa_cons (pv 3) (pa_cons (pv 4) (pa_cons (pv 6) pa_nil)))))))))
        (fun _ _ _ _ _ => pv 6)))), ?_⟩
    refine ⟨_, rfl, ag, Ks565.ints g, rfl, nv_ints g ▸ hG, ?_, fun m hm hle => ?_⟩
    · show 0 < (g.map Int.ofNat).length
      rw [List.length_map, O.hg]
      exact O.n1
    obtain ⟨m', hm', rfl⟩ := List.mem_map.mp hm
    have hmax : ∀ x ∈ g, x ≤ m' := fun x hx' => by
      have z := hle (Int.ofNat x) (List.mem_map.mpr ⟨x, hx', rfl⟩)
      exact Int.ofNat_le.mp z
    have gs : Ks565.groups g = m' + 1 := groups_of hm' hmax
    have m5 : m' < 5 := Nat.lt_of_lt_of_le (hx m' hm') n5
    refine ⟨_, _, rfl, rfl, ?_⟩
    refine ⟨_, rfl, _, _, rfl, rfl, ((m' + 2 : Nat) : Int), congrArg (fun z => [V.int z]) (by show ((m' : Nat) : Int) + 1 + 1 = ((m' + 2 : Nat) : Int); omega), by omega, by omega, fun D hD => ?_⟩
    refine lc_range (lo := 0) (n := m' + 2) (fun j H' => H' = upd H D (.lst (nv (ksUp t w' g i j)))) rfl ?_ ?_
    · rintro j H' hj rfl
      have sD : ∀ o, Same H (upd H D o) := fun o => Same.new hD
      rw [Int.zero_add]
      refine ⟨rfl, _, rfl, _, rfl, _, rfl, _, rfl, _, rfl, _, rfl, aw, ag, t, g, w', i, j, rfl, (sD _).seq hW, (sD _).any hG, O, hi, hw, by omega, _, rfl, ?_⟩
      cases e : Ks565.may t w' g i j with
      | false =>
        refine iteF ?_
        rw [ksUp_no e]
      | true =>
        refine iteT ⟨_, rfl, _, upd_same, small1000 ?_, ?_⟩
        · rw [nv_len]
          have := ksUp_len t w' g i j
          omega
        · rw [upd_upd, ksUp_yes e, nv_snoc]
    · rintro H' rfl
      have e : ks t w' g i = ksUp t w' g i (m' + 2) := by
        unfold ks ksUp
        rw [gs]
      have z := q D hD
      rw [e] at z
      exact z
end
end Mte
namespace Mte
open PySem PySem.Spec PyProof.Rows L2
open Ks565 (Folk)
abbrev sBes : Stmt := top 16
def bestPre (t : Folk) (g : List Nat) (i : Nat) (l : List Nat) : Option Nat := l.foldl (better t g i) none
theorem bestPre_more (t : Folk) (g : List Nat) (i : Nat) (l : List Nat) (k : Nat) : bestPre t g i (l ++ [k]) = better t g i (bestPre t g i l) k := by
  unfold bestPre
  rw [List.foldl_append]
  rfl
def spBes (K : PySem.W.Frag) : Sp := fun vs H Q _ => ∃ (aw ag : Addr) (t : Folk) (g : List Nat) (w i : Nat), vs = [.int t.n, .int w, .ref aw, .ref ag, .int i] ∧ SqL K H aw (t.v.map V.int) ∧ SqA K H ag (nv g) ∧ Ok t g ∧ i < t.n ∧ w ≤ 2 ∧ (∀ x ∈ g, x < t.n) ∧
  ∀ H', Same H H' → Q (optV (bestOf t w g i)) H'
section
variable {P : Program} {w : World} {K : PySem.W.Frag} {mg : Str → Option Value} {base : Heap}
theorem scBes : FnScope ["n", "w", "worth", "groups", "person", "best", "most", "number", "there"] ["n", "w", "worth", "groups", "person"] (defScope sBes) := ⟨rfl, rfl, rfl, by decide +kernel, rfl, by decide +kernel, by decide +kernel⟩
theorem ok_bes (D : Dfx K mg "best_group" sBes ["n", "w", "worth", "groups", "person"]) (T : Txt mg) (CW : Cal P w K mg base 3 "where_one_may_go" ["n", "w", "worth", "groups", "person"] (spWhe K))
    (CH : Cal P w K mg base 1 "has_with" ["n", "worth", "groups", "person", "number"] (spHas K)) : Cal P w K mg base 4 "best_group" ["n", "w", "worth", "groups", "person"] (spBes K) := by
  refine D.ok scBes (fun vs H Q E h => ?_) (fun f cdv A outer s H vs Q E hr h => ?_)
  · obtain ⟨aw, ag, t, g, w', i, rfl, _⟩ := h
    rfl
  · obtain ⟨aw, ag, t, g, w', i, rfl, hW, hG, O, hi, hw, hx, q⟩ := h
    have n5 := O.n5
    have hr1 : Room 1 _ := hr.mono (by decide)
    refine ⟨_, pss_cons (ps_set (i := 5) scBes.nd rfl (Or.inl rfl) pe_non)
      (pss_cons (ps_set (i := 6) scBes.nd rfl (Or.inl rfl) pe_int)
      (pss_cons (ps_for PassesOwn.never rfl (pi_list (pe_cal CW hr rfl (pa_cons (pv 0) (pa_cons (pv 1) (pa_cons (pv 2) (pa_cons (pv 3) (pa_cons (pv 4) pa_nil))))))) (pg_name (i := 7) scBes.nd rfl (Or.inl rfl))
        (pss_cons (ps_set (i := 8) scBes.nd rfl (Or.inl rfl) (pe_cal CH hr1 rfl (pa_cons (pv 0) (pa_cons (pv 2) (pa_cons (pv 3) (pa_cons (pv 4) (pa_cons (pv 7) pa_nil)))))))
          (pss_one (ps_if (PW.pt (pw_or (pt_cmpR op_isN (pv 5) pe_non (nomark _)) (pw_or1 (pt_cmpR op_gt (pv 8) (pv 6) (nomark _)))))
            (pss_cons (ps_set (i := 5) scBes.nd rfl (Or.inl rfl) (pv 7)) (pss_one (ps_set (i := 6) scBes.nd rfl (Or.inl rfl) (pv 8)))) pss_nil))))
      (pss_one (ps_ret (pv 5))))), ?_⟩
    refine ⟨_, rfl, _, rfl, _, rfl, _, rfl, _, rfl, aw, ag, t, g, w', i, rfl, hW, hG, O, hi, hw, hx, fun p hp => ⟨p, rfl, ⟨_, SqL.of upd_same⟩, ?_⟩⟩
    have sp : ∀ o, Same H (upd H p o) := fun o => Same.new hp
    refine for_list (K := K) (a := p) (xs := nv (ks t w' g i)) (fun j σ H' => H' = upd H p (.lst (nv (ks t w' g i))) ∧ ∃ (b : Option Nat) (mo : Int) (o1 o2 : Option V), b = bestPre t g i ((ks t w' g i).take j) ∧ (∀ x, b = some x → mo = hasW t g i x) ∧
        σ = [some (.int t.n), some (.int w'), some (.ref aw), some (.ref ag), some (.int i), some (optV b), some (.int mo), o1, o2]) ⟨rfl, none, 0, none, none, rfl, fun x z => (by cases z), rfl⟩ (fun j σ H' _ z => ?_) ?_ ?_
    · rw [z.1]
      exact SqL.of upd_same
    · rintro j y σ H' hj ⟨rfl, b, mo, o1, o2, hb, hmo, rfl⟩
      obtain ⟨k, hk, rfl⟩ := of_map_at hj
      have tk := take_more hk
      refine ⟨_, rfl, _, rfl, _, rfl, _, rfl, _, rfl, aw, ag, t, g, i, k, rfl, (sp _).seq hW, (sp _).any hG, O, hi, ?_⟩
      refine ⟨_, rfl, rfl, _, rfl, ?_⟩
      cases b with
      | none =>
        refine if_t rfl (iteT ?_)
        refine ⟨_, rfl, _, rfl, rfl, some k, _, _, _, ?_, fun x z => ?_, rfl⟩
        · rw [tk, bestPre_more, ← hb]
          rfl
        · cases z
          rfl
      | some b =>
        refine if_f (fun z => by cases z) ?_
        refine ⟨_, rfl, _, rfl, _, _, rfl, rfl, _, rfl, ?_⟩
        have eb : mo = hasW t g i b := hmo b rfl
        by_cases c : mo < hasW t g i k
        · refine if_t c ?_
          refine ⟨_, rfl, _, rfl, rfl, some k, _, _, _, ?_, fun x z => ?_, rfl⟩
          · rw [tk, bestPre_more, ← hb]
            show some k = if hasW t g i b < hasW t g i k then some k else some b
            rw [if_pos (by omega)]
          · cases z
            rfl
        · refine if_f c ⟨rfl, some b, _, _, _, ?_, hmo, rfl⟩
          rw [tk, bestPre_more, ← hb]
          show some b = if hasW t g i b < hasW t g i k then some k else some b
          rw [if_neg (by omega)]
    · rintro σ H' ⟨rfl, b, mo, o1, o2, hb, hmo, rfl⟩
      refine ⟨_, rfl, ?_⟩
      have e : bestOf t w' g i = b := by
        rw [bestOf_ks, hb, nv_len, List.take_length]
        rfl
      have z := q _ (sp (.lst (nv (ks t w' g i))))
      rw [e] at z
      exact z
end
end Mte
namespace Mte
open PySem PySem.Spec PyProof.Rows L2
open Ks565 (Folk)
abbrev sFir : Stmt := top 17
def spFir (K : PySem.W.Frag) : Sp := fun vs H Q _ => ∃ (aw ag : Addr) (t : Folk) (g : List Nat) (w : Nat), vs = [.int t.n, .int w, .ref aw, .ref ag] ∧ SqL K H aw (t.v.map V.int) ∧ SqL K H ag (nv g) ∧ Ok t g ∧ w ≤ 2 ∧ (∀ x ∈ g, x < t.n) ∧
  ∀ H', Same H H' → (firstMove t w g = none → Q .non H') ∧ ∀ i k, firstMove t w g = some (i, k) → ∀ p, H' p = none → Q (.ref p) (upd H' p (.tup [.int (i : Nat), .int (k : Nat)]))
section
variable {P : Program} {w : World} {K : PySem.W.Frag} {mg : Str → Option Value} {base : Heap}
theorem scFir : FnScope ["n", "w", "worth", "groups", "person", "number"] ["n", "w", "worth", "groups"] (defScope sFir) := ⟨rfl, rfl, rfl, by decide +kernel, rfl, by decide +kernel, by decide +kernel⟩
theorem ok_fir (D : Dfx K mg "first_move" sFir ["n", "w", "worth", "groups"]) (T : Txt mg) (CB : Cal P w K mg base 4 "best_group" ["n", "w", "worth", "groups", "person"] (spBes K)) : Cal P w K mg base 5 "first_move" ["n", "w", "worth", "groups"] (spFir K) := by
  refine D.ok scFir (fun vs H Q E h => ?_) (fun f cdv A outer s H vs Q E hr h => ?_)
  · obtain ⟨aw, ag, t, g, w', rfl, _⟩ := h
    rfl
  · obtain ⟨aw, ag, t, g, w', rfl, hW, hG, O, hw, hx, q⟩ := h
    have n5 := O.n5
    refine ⟨_, pss_cons (ps_for PassesOwn.never rfl (pi_range1 rfl T.range (pa_cons (pv 0) pa_nil)) (pg_name (i := 4) scFir.nd rfl (Or.inl rfl))
        (pss_cons (ps_set (i := 5) scFir.nd rfl (Or.inl rfl) (pe_cal CB hr rfl (pa_cons (pv 0) (pa_cons (pv 1) (pa_cons (pv 2) (pa_cons (pv 3) (pa_cons (pv 4) pa_nil)))))))
        (pss_one (ps_if (pt_cmpR op_notN (pv 5) pe_non (nomark _)) (pss_one (ps_ret (pe_tup (pa_cons (pv 4) (pa_cons (pv 5) pa_nil))))) pss_nil))))
      (pss_one (ps_ret pe_non)), ?_⟩
    refine ⟨_, rfl, (t.n : Int), rfl, by omega, by omega, for_range (lo := 0) (n := t.n) (fun j σ H' => Same H H' ∧ noneUp t w' g j ∧ ∃ o1 o2 : Option V, σ = [some (.int t.n), some (.int w'), some (.ref aw), some (.ref ag), o1, o2])
      ⟨Same.refl H, fun o ho => absurd ho (Nat.not_lt_zero o), none, none, rfl⟩ ?_ ?_⟩
    · rintro j σ H' hj ⟨s1, up, o1, o2, rfl⟩
      rw [Int.zero_add]
      refine ⟨_, rfl, _, rfl, _, rfl, _, rfl, _, rfl, aw, ag, t, g, w', j, rfl, s1.seq hW, .inl (s1.seq hG), O, hj, hw, hx, fun H2 s2 => ?_⟩
      refine ⟨_, rfl, rfl, _, rfl, ?_⟩
      cases e : bestOf t w' g j with
      | none =>
        refine if_nf rfl ⟨s1.trans s2, fun o ho => ?_, _, _, rfl⟩
        by_cases z : o < j
        · exact up o z
        · have y : o = j := by omega
          subst y
          exact e
      | some k =>
        refine if_nt (fun z => by cases z) ?_
        exact ⟨_, rfl, _, rfl, (by show 2 ≤ sizeLine; decide), fun p hp => (q H2 (s1.trans s2)).2 j k (first_some up hj e) p hp⟩
    · rintro σ H' ⟨s1, up, o1, o2, rfl⟩
      exact (q H' s1).1 (first_none up)
end
end Mte
namespace Mte
open PySem PySem.Spec PyProof.Rows L2
open Ks565 (Folk)
abbrev sNum : Stmt := top 10
def spNum (K : PySem.W.Frag) : Sp := fun vs H Q _ => ∃ (ag : Addr) (g : List Nat), vs = [.ref ag] ∧ SqL K H ag (nv g) ∧ g.length ≤ 900 ∧
  ∀ (H' : Hp) (p : Addr), Same H H' → H p = none → H' p = some (.lst (nv (Ks565.tidy g))) → Q (.ref p) H'
section
variable {P : Program} {w : World} {K : PySem.W.Frag} {mg : Str → Option Value} {base : Heap}
theorem scNum : FnScope ["groups", "new_numbers", "answer", "number"] ["groups"] (defScope sNum) := ⟨rfl, rfl, rfl, by decide +kernel, rfl, by decide +kernel, by decide +kernel⟩
theorem ok_num (D : Dfx K mg "numbered_as_they_come" sNum ["groups"]) (T : TxtW mg) : Cal P w K mg base 1 "numbered_as_they_come" ["groups"] (spNum K) := by
  refine D.ok scNum (fun vs H Q E h => ?_) (fun f cdv A outer s H vs Q E hr h => ?_)
  · obtain ⟨ag, g, rfl, _⟩ := h
    rfl
  · obtain ⟨ag, g, rfl, hG, hlen, q⟩ := h
    have hu := hu_of hr
    refine ⟨_, pss_cons (ps_set (i := 1) scNum.nd rfl (Or.inl rfl) pe_dnewK)
      (pss_cons (ps_set (i := 2) scNum.nd rfl (Or.inl rfl) (pe_lst pa_nil))
      (pss_cons (ps_for PassesOwn.never rfl (pi_list (pv 0)) (pg_name (i := 3) scNum.nd rfl (Or.inl rfl))
        (pss_cons (ps_if (pt_cmp (pc_dnotin hu (pv 3) (pv 1)))
          (pss_one (ps_dput hu (pv 1) (pv 3) (pe_callB call_lenD (by rfl) T.len PySem.boot_len (pa_cons (pv 1) pa_nil)) rfl)) pss_nil)
        (pss_one (ps_expr (pe_bm PySem.F.plainAttrs_list PySem.F.slot_list_append PySem.F.type_list_append mt_append (pv 2) (pa_cons (pe_dget hu (pv 1) (pv 3) (fun _ _ => rfl)) pa_nil))))))
      (pss_one (ps_ret (pv 2))))), ?_⟩
    intro d hd
    refine ⟨Nat.zero_le _, fun l hl => ?_⟩
    have nl : l ≠ d := fun z => by
      rw [z, upd_same] at hl
      cases hl
    have hl0 : H l = none := by
      rw [upd_ne nl] at hl
      exact hl
    have s1 : Same H (upd (upd H d (.dK [])) l (.lst [])) := (Same.new hd).newer hl0
    refine ⟨_, rfl, ag, rfl, ⟨_, s1.seq hG⟩, for_list (K := K) (a := ag) (xs := nv g) (fun j σ H' => ∃ (kvs : List (Key × V)) (v : Option V), σ = [some (.ref ag), some (.ref d), some (.ref l), v] ∧ Same H H' ∧ H' d = some (.dK kvs) ∧
        H' l = some (.lst (nv (tidyUp (g.take j)))) ∧ kvs.length = (firsts (g.take j)).length ∧ ∀ x : Nat, valV kvs (Sum.inl (x : Int) : Key) = if x ∈ firsts (g.take j) then some (.int (idx (firsts (g.take j)) x : Nat)) else none)
      ⟨[], none, rfl, s1, by rw [upd_ne nl.symm, upd_same], upd_same, rfl, fun x => rfl⟩ (fun j σ H' _ ⟨_, _, _, s2, _⟩ => s2.seq hG) ?_ ?_⟩
    · rintro j y σ H' hj ⟨kvs, v, rfl, s2, h1, h2, h3, h4⟩
      obtain ⟨x, hx, rfl⟩ := of_map_at hj
      have tk := take_more hx
      have jl : (g.take j).length ≤ 900 := Nat.le_trans (by rw [List.length_take]; exact Nat.min_le_right _ _) hlen
      have fl : (firsts (g.take j)).length ≤ 900 := Nat.le_trans (firsts_len _) jl
      have al : (nv (tidyUp (g.take j))).length < sizeLine := small1000 (by
        rw [nv_len]
        unfold tidyUp
        rw [List.length_map]
        omega)
      have key := h4 x
      refine ⟨_, rfl, _, rfl, d, _, rfl, DGet.k (k := Sum.inl (x : Int)) h1, _, rfl, ?_⟩
      by_cases c : x ∈ firsts (g.take j)
      · rw [if_pos c] at key
        rw [key]
        refine iteF ?_
        refine ⟨_, rfl, .inl ⟨rfl, _, SqL.of h2⟩, _, rfl, _, rfl, d, _, rfl, (by have z := DGet.k (k := Sum.inl (x : Int)) h1; rw [key] at z; exact z), l, _, _, rfl, rfl, h2, al, ?_⟩
        rw [tk]
        refine ⟨kvs, _, rfl, s2.newer hl0, by rw [upd_ne nl.symm]; exact h1, ?_, by rw [firsts_in c]; exact h3, by rw [firsts_in c]; exact h4⟩
        rw [upd_same, tidyUp_in c]
        unfold nv
        rw [List.map_append]
        rfl
      · rw [if_neg c] at key
        rw [key]
        refine iteT ?_
        refine ⟨_, rfl, d, kvs, rfl, h1, _, rfl, _, rfl, d, _, rfl, DPut.k (k := Sum.inl (x : Int)) h1 (small1000 (by omega)), ?_⟩
        have h2' : (upd H' d (.dK (putK kvs (Sum.inl (x : Int) : Key) (.int kvs.length)))) l = some (.lst (nv (tidyUp (g.take j)))) := by
          rw [upd_ne nl]
          exact h2
        refine ⟨_, rfl, .inl ⟨rfl, _, SqL.of h2'⟩, _, rfl, _, rfl, d, _, rfl, (by have z := DGet.k (k := Sum.inl (x : Int)) (upd_same (H := H') (a := d) (o := .dK (putK kvs (Sum.inl (x : Int) : Key) (.int kvs.length)))); rw [valV_put, if_pos rfl] at z; exact z), l, _, _, rfl, rfl, h2', al, ?_⟩
        rw [tk]
        refine ⟨putK kvs (Sum.inl (x : Int) : Key) (.int kvs.length), _, rfl, (s2.newer hd).newer hl0, by rw [upd_ne nl.symm, upd_same], ?_, ?_, fun z => ?_⟩
        · rw [upd_same, tidyUp_new c]
          unfold nv
          rw [List.map_append, h3]
          rfl
        · rw [putK_new _ key, firsts_new c, List.length_append, List.length_append, h3]
          rfl
        · rw [valV_put, firsts_new c]
          by_cases e : z = x
          · subst e
            rw [if_pos rfl, if_pos (by simp), idx_new c, h3]
          · rw [if_neg (fun y => e (Int.ofNat_inj.mp (Sum.inl.inj y))), h4 z]
            by_cases m : z ∈ firsts (g.take j)
            · rw [if_pos m, if_pos (List.mem_append_left _ m), idx_more m]
            · rw [if_neg m, if_neg (by simp [m, e])]
    · rintro σ H' ⟨kvs, v, rfl, s2, h1, h2, h3, h4⟩
      refine ⟨_, rfl, ?_⟩
      rw [nv_len, List.take_length] at h2
      exact q H' l s2 hl0 h2
end
end Mte
namespace Mte
open PySem PySem.Spec PyProof.Rows L2
open Ks565 (Folk)
abbrev sMov : Stmt := top 18
def spMov (K : PySem.W.Frag) : Sp := fun vs H Q _ => ∃ (ag : Addr) (g : List Nat) (i k : Nat), vs = [.ref ag, .int i, .int k] ∧ SqA K H ag (nv g) ∧ g.length ≤ 900 ∧ i < g.length ∧
  ∀ (H' : Hp) (p : Addr), Same H H' → H p = none → H' p = some (.lst (nv (Ks565.go g i k))) → Q (.ref p) H'
section
variable {P : Program} {w : World} {K : PySem.W.Frag} {mg : Str → Option Value} {base : Heap}
theorem scMov : FnScope ["groups", "person", "number", "behind"] ["groups", "person", "number"] (defScope sMov) := ⟨rfl, rfl, rfl, by decide +kernel, rfl, by decide +kernel, by decide +kernel⟩
theorem ok_mov (D : Dfx K mg "moved" sMov ["groups", "person", "number"]) (T : Txt mg) (CN : Cal P w K mg base 1 "numbered_as_they_come" ["groups"] (spNum K)) : Cal P w K mg base 2 "moved" ["groups", "person", "number"] (spMov K) := by
  refine D.ok scMov (fun vs H Q E h => ?_) (fun f cdv A outer s H vs Q E hr h => ?_)
  · obtain ⟨ag, g, i, k, rfl, _⟩ := h
    rfl
  · obtain ⟨ag, g, i, k, rfl, hG, hlen, hi, q⟩ := h
    refine ⟨_, pss_cons (ps_set (i := 3) scMov.nd rfl (Or.inl rfl) (pe_callTy call_list_of (by rfl) T.list (by decide +kernel) (pa_cons (pv 0) pa_nil)))
      (pss_cons (ps_asg (pv 2) (pg_sub (pv 3) (pv 1) set_list))
      (pss_one (ps_ret (pe_cal CN hr rfl (pa_cons (pv 3) pa_nil))))), ?_⟩
    refine ⟨_, rfl, ag, _, rfl, hG, fun l hl => ?_⟩
    refine ⟨_, rfl, _, rfl, _, rfl, l, _, _, i, rfl, rfl, upd_same, ixN_nat (by rw [nv_len]; exact hi), ?_⟩
    refine ⟨_, rfl, l, g.set i k, rfl, SqL.of (by rw [upd_same, nv_set]), by rw [List.length_set]; exact hlen, fun H' p s2 np e => ?_⟩
    have s1 : Same H (upd (upd H l (.lst (nv g))) l (.lst ((nv g).set i (.int k)))) := (Same.new hl).newer hl
    exact q H' p (s1.trans s2) (s1.free np) e
end
end Mte
namespace Mte
open PySem PySem.Spec PyProof.Rows L2
open Ks565 (Folk)
abbrev sWor : Stmt := top 7
def spWor (K : PySem.W.Frag) : Sp := fun vs H Q _ => ∃ (aw : Addr) (n : Nat) (v : List Int), vs = [.int n, .ref aw] ∧ SqL K H aw (v.map V.int) ∧ n < 5000000000 ∧ ∀ b, (b = true ↔ okW n v) → Q (.bl b) H
section
variable {P : Program} {w : World} {K : PySem.W.Frag} {mg : Str → Option Value} {base : Heap}
theorem scWor : FnScope ["n", "worth", "value"] ["n", "worth"] (defScope sWor) := ⟨rfl, rfl, rfl, by decide +kernel, rfl, by decide +kernel, by decide +kernel⟩
theorem ok_wor (D : Dfx K mg "worth_is_told" sWor ["n", "worth"]) (T : TxtW mg) : Cal P w K mg base 1 "worth_is_told" ["n", "worth"] (spWor K) := by
  refine D.ok scWor (fun vs H Q E h => ?_) (fun f cdv A outer s H vs Q E hr h => ?_)
  · obtain ⟨aw, n, v, rfl, _⟩ := h
    rfl
  · obtain ⟨aw, n, v, rfl, hW, hn, q⟩ := h
    refine ⟨_, pss_cons (ps_if (PW.pt (pw_or (pt_cmpR op_lt (pv 0) pe_int (nomark _)) (pw_or (pt_cmpR op_gt (pv 0) (pe_gi rfl T.people) (nomark _))
          (pw_or1 (pt_cmpR op_ne (pe_callB call_len_seq (by rfl) T.len PySem.boot_len (pa_cons (pv 1) pa_nil)) (pe_op op_mul (pv 0) (pv 0)) (nomark _)))))) (pss_one (ps_ret pe_bl)) pss_nil)
      (pss_cons (ps_for PassesOwn.never rfl (pi_list (pv 1)) (pg_name (i := 2) scWor.nd rfl (Or.inl rfl))
        (pss_one (ps_if (PW.pt (pw_or (pt_cmpR op_lt (pv 2) (pe_un un_neg (pe_gi rfl T.most)) (nomark _)) (pw_or1 (pt_cmpR op_gt (pv 2) (pe_gi rfl T.most) (nomark _))))) (pss_one (ps_ret pe_bl)) pss_nil)))
      (pss_one (ps_ret pe_bl))), ?_⟩
    have no : ¬ okW n v → Q (.bl false) H := fun z => q false ⟨fun y => (Bool.false_ne_true y).elim, fun y => absurd y z⟩
    refine ⟨_, rfl, _, _, rfl, rfl, _, rfl, ?_⟩
    by_cases c1 : (n : Int) < 1
    · exact if_t c1 (iteT (no fun z => by have := z.1; omega))
    refine if_f c1 ?_
    refine ⟨_, rfl, _, _, rfl, rfl, _, rfl, ?_⟩
    by_cases c2 : (5 : Int) < (n : Int)
    · exact if_t c2 (iteT (no fun z => by have := z.2.1; omega))
    refine if_f c2 ?_
    refine ⟨_, rfl, aw, _, rfl, .inl hW, _, rfl, _, rfl, _, _, rfl, rfl, mul_small hn, rfl, _, rfl, ?_⟩
    have el : ((v.map V.int).length : Int) = (n : Int) * (n : Int) ↔ v.length = n * n := by
      rw [List.length_map, ← Int.natCast_mul]
      exact Int.ofNat_inj
    by_cases c3 : v.length = n * n
    · refine if_nf (congrArg V.int (el.mpr c3)) ?_
      refine ⟨_, rfl, aw, rfl, ⟨_, hW⟩, for_list (K := K) (a := aw) (xs := v.map V.int) (fun j σ H' => H' = H ∧ (∀ x ∈ v.take j, -20 ≤ x ∧ x ≤ 20) ∧ ∃ o : Option V, σ = [some (.int n), some (.ref aw), o])
        ⟨rfl, fun x hx => by simp at hx, none, rfl⟩ (fun j σ H' _ ⟨e, _⟩ => e ▸ hW) ?_ ?_⟩
      · rintro j y σ H' hj ⟨rfl, up, o, rfl⟩
        obtain ⟨x, hx, rfl⟩ := of_map_at hj
        have xin : x ∈ v := List.mem_of_getElem? hx
        have tk := take_more hx
        refine ⟨_, rfl, _, rfl, _, _, rfl, rfl, _, rfl, ?_⟩
        by_cases d1 : x < -20
        · exact if_t d1 (iteT (no fun z => by have := (z.2.2.2 x xin).1; omega))
        refine if_f d1 ?_
        refine ⟨_, rfl, _, _, rfl, rfl, _, rfl, ?_⟩
        by_cases d2 : 20 < x
        · exact if_t d2 (no fun z => by have := (z.2.2.2 x xin).2; omega)
        refine if_f d2 ⟨rfl, fun z hz => ?_, _, rfl⟩
        rw [tk] at hz
        rcases List.mem_append.mp hz with a | a
        · exact up z a
        · rw [List.mem_singleton.mp a]
          omega
      · rintro σ H' ⟨rfl, up, o, rfl⟩
        rw [List.length_map, List.take_length] at up
        exact q true ⟨fun _ => ⟨by omega, by omega, c3, up⟩, fun _ => rfl⟩
    · exact if_nt (fun z => c3 (el.mp (V.int.inj z))) (no fun z => c3 z.2.2.1)
end
end Mte
namespace Mte
open PySem PySem.Spec PyProof.Rows L2
open Ks565 (Folk)
abbrev sGro : Stmt := top 8
def spGro (K : PySem.W.Frag) : Sp := fun vs H Q _ => ∃ (ag : Addr) (n : Nat) (g : List Nat), vs = [.int n, .ref ag] ∧ SqL K H ag (nv g) ∧ ∀ b, (b = true ↔ okG n g) → Q (.bl b) H
section
variable {P : Program} {w : World} {K : PySem.W.Frag} {mg : Str → Option Value} {base : Heap}
theorem scGro : FnScope ["n", "groups", "number"] ["n", "groups"] (defScope sGro) := ⟨rfl, rfl, rfl, by decide +kernel, rfl, by decide +kernel, by decide +kernel⟩
theorem ok_gro (D : Dfx K mg "groups_are_told" sGro ["n", "groups"]) (T : TxtW mg) : Cal P w K mg base 1 "groups_are_told" ["n", "groups"] (spGro K) := by
  refine D.ok scGro (fun vs H Q E h => ?_) (fun f cdv A outer s H vs Q E hr h => ?_)
  · obtain ⟨ag, n, g, rfl, _⟩ := h
    rfl
  · obtain ⟨ag, n, g, rfl, hG, q⟩ := h
    refine ⟨_, pss_cons (ps_if (pt_cmpR op_ne (pe_callB call_len_seq (by rfl) T.len PySem.boot_len (pa_cons (pv 1) pa_nil)) (pv 0) (nomark _)) (pss_one (ps_ret pe_bl)) pss_nil)
      (pss_cons (ps_for PassesOwn.never rfl (pi_list (pv 1)) (pg_name (i := 2) scGro.nd rfl (Or.inl rfl))
        (pss_one (ps_if (pt_cmpR op_ge (pv 2) (pv 0) (nomark _)) (pss_one (ps_ret pe_bl)) pss_nil)))
      (pss_one (ps_ret pe_bl))), ?_⟩
    have no : ¬ okG n g → Q (.bl false) H := fun z => q false ⟨fun y => (Bool.false_ne_true y).elim, fun y => absurd y z⟩
    refine ⟨_, rfl, ag, _, rfl, .inl hG, _, rfl, rfl, _, rfl, ?_⟩
    by_cases c : g.length = n
    · refine if_nf (veq (by rw [nv_len]; exact c)) ?_
      refine ⟨_, rfl, ag, rfl, ⟨_, hG⟩, for_list (K := K) (a := ag) (xs := nv g) (fun j σ H' => H' = H ∧ (∀ x ∈ g.take j, x < n) ∧ ∃ o : Option V, σ = [some (.int n), some (.ref ag), o])
        ⟨rfl, fun x hx => by simp at hx, none, rfl⟩ (fun j σ H' _ ⟨e, _⟩ => e ▸ hG) ?_ ?_⟩
      · rintro j y σ H' hj ⟨rfl, up, o, rfl⟩
        obtain ⟨x, hx, rfl⟩ := of_map_at hj
        have xin : x ∈ g := List.mem_of_getElem? hx
        have tk := take_more hx
        refine ⟨_, rfl, _, rfl, _, _, rfl, rfl, _, rfl, ?_⟩
        by_cases d : (n : Int) ≤ (x : Int)
        · exact if_t d (no fun z => by have := z.2 x xin; omega)
        refine if_f d ⟨rfl, fun z hz => ?_, _, rfl⟩
        rw [tk] at hz
        rcases List.mem_append.mp hz with a | a
        · exact up z a
        · rw [List.mem_singleton.mp a]
          omega
      · rintro σ H' ⟨rfl, up, o, rfl⟩
        rw [nv_len, List.take_length] at up
        exact q true ⟨fun _ => ⟨c, up⟩, fun _ => rfl⟩
    · exact if_nt (vne (by rw [nv_len]; exact c)) (no fun z => c z.1)
end
end Mte
namespace Mte
open PySem PySem.Spec PyProof.Rows L2
open Ks565 (Folk)
abbrev sRef : Stmt := top 9
def spRef (K : PySem.W.Frag) : Sp := fun vs H Q _ => ∃ (aw ag : Addr) (n w : Nat) (v : List Int) (g : List Nat), vs = [.int n, .int w, .ref aw, .ref ag] ∧ SqL K H aw (v.map V.int) ∧ SqL K H ag (nv g) ∧ n < 5000000000 ∧
  ∀ b, (b = false ↔ okW n v ∧ okG n g ∧ w ≤ 2) → Q (.bl b) H
section
variable {P : Program} {w : World} {K : PySem.W.Frag} {mg : Str → Option Value} {base : Heap}
theorem scRef : FnScope ["n", "w", "worth", "groups"] ["n", "w", "worth", "groups"] (defScope sRef) := ⟨rfl, rfl, rfl, by decide +kernel, rfl, by decide +kernel, by decide +kernel⟩
theorem ok_ref (D : Dfx K mg "is_refused" sRef ["n", "w", "worth", "groups"]) (T : Txt mg) (CW : Cal P w K mg base 1 "worth_is_told" ["n", "worth"] (spWor K)) (CG : Cal P w K mg base 1 "groups_are_told" ["n", "groups"] (spGro K)) : Cal P w K mg base 2 "is_refused" ["n", "w", "worth", "groups"] (spRef K) := by
  refine D.ok scRef (fun vs H Q E h => ?_) (fun f cdv A outer s H vs Q E hr h => ?_)
  · obtain ⟨aw, ag, n, w', v, g, rfl, _⟩ := h
    rfl
  · obtain ⟨aw, ag, n, w', v, g, rfl, hW, hG, hn, q⟩ := h
    refine ⟨_, pss_one (ps_ret (pe_or (pe_not (pe_cal CW hr rfl (pa_cons (pv 0) (pa_cons (pv 2) pa_nil)))) (pe_or (pe_not (pe_cal CG hr rfl (pa_cons (pv 0) (pa_cons (pv 3) pa_nil)))) (pe_one (pe_cmpR op_gt (pv 1) (pe_gi rfl T.last) (nomark _)))))), ?_⟩
    refine ⟨_, rfl, _, rfl, aw, n, v, rfl, hW, hn, fun b hb => ⟨_, rfl, _, rfl, ?_⟩⟩
    cases b with
    | false => exact iteT (q true ⟨fun z => (by cases z), fun z => (hb.mpr z.1).symm⟩)
    | true =>
      refine iteF ?_
      have h1 := hb.mp rfl
      refine ⟨_, rfl, _, rfl, ag, n, g, rfl, hG, fun b hb => ⟨_, rfl, _, rfl, ?_⟩⟩
      cases b with
      | false => exact iteT (q true ⟨fun z => (by cases z), fun z => (hb.mpr z.2.1).symm⟩)
      | true =>
        refine iteF ?_
        have h2 := hb.mp rfl
        refine ⟨_, rfl, _, _, rfl, rfl, ?_⟩
        refine q _ ⟨fun z => ⟨h1, h2, ?_⟩, fun z => decide_eq_false ?_⟩
        · have := of_decide_eq_false z
          omega
        · have := z.2.2
          omega
end
end Mte
namespace Mte
open PySem PySem.Spec PyProof.Rows L2
open Ks565 (Folk)
theorem fo_no {n : Nat} {v : List Int} {f : Folk → Ks565.Ans} (c : ¬ okW n v) : Ks565.folk n v f = Ks565.no (-22) := by
  refine folk_none ?_
  by_cases c1 : n < 1
  · exact .inl c1
  by_cases c2 : 5 < n
  · exact .inr (.inl c2)
  by_cases c3 : v.length = n * n
  · refine .inr (.inr (.inr ?_))
    refine Classical.byContradiction fun z => c ⟨by omega, by omega, c3, fun x hx => ?_⟩
    refine Classical.byContradiction fun y => z ⟨x, hx, by omega⟩
  · exact .inr (.inr (.inl c3))
theorem fo_yes {n : Nat} {v : List Int} {f : Folk → Ks565.Ans} (c : okW n v) : Ks565.folk n v f = f ⟨n, v⟩ := folk_some c.1 c.2.1 c.2.2.1 c.2.2.2
theorem in_no {n : Nat} {v : List Int} {g : List Nat} {f : Folk → List Nat → Ks565.Ans} (h : ¬ (okW n v ∧ okG n g)) : Ks565.inGroups n v g f = Ks565.no (-22) := by
  unfold Ks565.inGroups
  by_cases c : okW n v
  · rw [fo_yes c]
    refine if_neg fun d => ?_
    unfold Ks565.okGroups at d
    rw [Bool.and_eq_true, List.all_eq_true] at d
    have d1 : g.length = n := by simpa using d.1
    exact h ⟨c, d1, fun x hx => of_decide_eq_true (d.2 x hx)⟩
  · exact fo_no c
theorem in_yes {n : Nat} {v : List Int} {g : List Nat} {f : Folk → List Nat → Ks565.Ans} (c : okW n v) (d : okG n g) : Ks565.inGroups n v g f = f ⟨n, v⟩ (Ks565.tidy g) := by
  unfold Ks565.inGroups
  have dd : Ks565.okGroups ⟨n, v⟩ g = true := by
    unfold Ks565.okGroups
    rw [Bool.and_eq_true, List.all_eq_true]
    exact ⟨by simpa using d.1, fun x hx => decide_eq_true (d.2 x hx)⟩
  rw [fo_yes c]
  exact if_pos dd
theorem way_no {n w : Nat} {v : List Int} {g : List Nat} {f : Folk → List Nat → Ks565.Ans} (h : ¬ (okW n v ∧ okG n g ∧ w ≤ 2)) : Ks567.way n w v g f = Ks565.no (-22) := by
  unfold Ks567.way
  by_cases c : okW n v ∧ okG n g
  · rw [in_yes c.1 c.2]
    exact if_pos (Nat.lt_of_not_le fun z => h ⟨c.1, c.2, z⟩)
  · exact in_no c
theorem way_yes {n w : Nat} {v : List Int} {g : List Nat} {f : Folk → List Nat → Ks565.Ans} (c : okW n v) (d : okG n g) (hw : w ≤ 2) : Ks567.way n w v g f = f ⟨n, v⟩ (Ks565.tidy g) := by
  unfold Ks567.way
  rw [in_yes c d]
  exact if_neg (Nat.not_lt_of_le hw)
theorem ok_tidy {n : Nat} {v : List Int} {g : List Nat} (c : okW n v) (d : okG n g) : Ok ⟨n, v⟩ (Ks565.tidy g) := ⟨c.1, c.2.1, c.2.2.1, (tidy_length g).trans d.1⟩
theorem lt_tidy {n : Nat} {g : List Nat} (d : okG n g) : ∀ x ∈ Ks565.tidy g, x < n := fun _ hx => d.1 ▸ tidy_lt hx
end Mte
namespace Mte
open PySem PySem.Spec PyProof.Rows L2
theorem nv_toNat : ∀ {gs : List Int}, (∀ x ∈ gs, 0 ≤ x) → nv (gs.map Int.toNat) = gs.map V.int
  | [], _ => rfl
  | x :: r, h => by
    have e : ((x.toNat : Nat) : Int) = x := Int.toNat_of_nonneg (h x (List.mem_cons_self ..))
    have ih := nv_toNat (gs := r) fun y hy => h y (List.mem_cons_of_mem _ hy)
    show V.int ((x.toNat : Nat) : Int) :: nv (r.map Int.toNat) = V.int x :: r.map V.int
    rw [ih, e]
end Mte
namespace Mte
open PySem PySem.Spec PyProof.Rows L2
open Ks565 (Folk)
abbrev sRun : Stmt := top 19
/-! lists of groups, as data -/
def gd (g : List Nat) : PyData := .list (g.map fun (x : Nat) => PyData.int (x : Int))
theorem eqvAll_nats : ∀ a b : List Nat, PyData.eqvAll (a.map fun (x : Nat) => PyData.int (x : Int)) (b.map fun (x : Nat) => PyData.int (x : Int)) = decide (a = b)
  | [], [] => by rw [List.map_nil, PyData.eqvAll]; rfl
  | [], _ :: _ => by rw [List.map_nil, List.map_cons, PyData.eqvAll]; rfl
  | _ :: _, [] => by rw [List.map_nil, List.map_cons, PyData.eqvAll]; rfl
  | x :: a, y :: b => by
    rw [List.map_cons, List.map_cons, PyData.eqvAll, PyData.eqv, eqvAll_nats a b]
    by_cases c : x = y
    · subst c
      by_cases d : a = b
      · simp [d]
      · simp [d]
    · have e : ((x : Int) == (y : Int)) = false := by
        rw [beq_eq_false_iff_ne]
        exact fun z => c (Int.ofNat_inj.mp z)
      rw [e]
      simp [c]
theorem eqv_gd (a b : List Nat) : PyData.eqv (gd a) (gd b) = decide (a = b) := by
  unfold gd
  rw [PyData.eqv]
  exact eqvAll_nats a b
theorem any_gd (past : List (List Nat)) (g : List Nat) : ((past.map gd).any fun z => PyData.eqv z (gd g)) = decide (g ∈ past) := by
  induction past with
  | nil => rfl
  | cons a l ih =>
    rw [List.map_cons, List.any_cons, ih, eqv_gd]
    by_cases c : a = g
    · simp [c]
    · have c' : ¬ g = a := fun z => c z.symm
      simp [c, c']
theorem lay_nats : ∀ a : List Nat, PyData.canLayAll0 (a.map fun (x : Nat) => PyData.int (x : Int)) = true ∧ PyData.depthAll (a.map fun (x : Nat) => PyData.int (x : Int)) = 0
  | [] => by
    rw [List.map_nil, PyData.canLayAll0, PyData.depthAll]
    exact ⟨rfl, rfl⟩
  | x :: a => by
    obtain ⟨h1, h2⟩ := lay_nats a
    rw [List.map_cons, PyData.canLayAll0, PyData.depthAll, PyData.canLay0, PyData.depth, h1, h2]
    exact ⟨rfl, rfl⟩
theorem gd_lay (g : List Nat) : (gd g).canLay0 = true ∧ (gd g).depth = 1 := by
  unfold gd
  rw [PyData.canLay0, PyData.depth, (lay_nats g).1, (lay_nats g).2]
  exact ⟨rfl, rfl⟩
theorem gds_lay : ∀ past : List (List Nat), PyData.canLayAll0 (past.map gd) = true ∧ PyData.depthAll (past.map gd) ≤ 1
  | [] => by
    rw [List.map_nil, PyData.canLayAll0, PyData.depthAll]
    exact ⟨rfl, by decide⟩
  | x :: a => by
    obtain ⟨h1, h2⟩ := gds_lay a
    rw [List.map_cons, PyData.canLayAll0, PyData.depthAll, (gd_lay x).1, (gd_lay x).2, h1]
    exact ⟨rfl, Nat.max_le.mpr ⟨Nat.le_refl _, h2⟩⟩
theorem gd_shaped (g : List Nat) : SeqAt.shaped (gd g) = true := by
  unfold SeqAt.shaped
  rw [(gd_lay g).1, (gd_lay g).2]
  rfl
theorem gds_shaped (past : List (List Nat)) : SeqAt.shaped (.list (past.map gd)) = true := by
  unfold SeqAt.shaped
  have h := (gds_lay past).2
  rw [PyData.canLay0, PyData.depth, (gds_lay past).1, decide_eq_true (by omega)]
  rfl
theorem dp_nats {K : PySem.W.Frag} {H : Hp} : ∀ g : List Nat, DpAll K H (nv g) (g.map fun (x : Nat) => PyData.int (x : Int))
  | [] => .nil
  | x :: g => .cons (.int (x : Int)) (dp_nats g)
/-- the list at b holds lists of groups, none of them at b -/
inductive Bn (H : Hp) (b : Addr) : List V → List (List Nat) → Prop
  | nil : Bn H b [] []
  | cons {a : Addr} {g : List Nat} {vs : List V} {gs : List (List Nat)} : a ≠ b → H a = some (.lst (nv g)) → Bn H b vs gs → Bn H b (.ref a :: vs) (g :: gs)
theorem Bn.keep {H H' : Hp} {b : Addr} (k : ∀ a o, a ≠ b → H a = some o → H' a = some o) {vs : List V} {gs : List (List Nat)} (h : Bn H b vs gs) : Bn H' b vs gs := by
  induction h with
  | nil => exact .nil
  | cons n e _ ih => exact .cons n (k _ _ n e) ih
theorem Bn.snoc {H : Hp} {b a : Addr} {g : List Nat} (n : a ≠ b) (e : H a = some (.lst (nv g))) {vs : List V} {gs : List (List Nat)} (h : Bn H b vs gs) : Bn H b (vs ++ [.ref a]) (gs ++ [g]) := by
  induction h with
  | nil => exact .cons n e .nil
  | cons n' e' _ ih => exact .cons n' e' ih
theorem Bn.dp {K : PySem.W.Frag} {H : Hp} {b : Addr} {vs : List V} {gs : List (List Nat)} (h : Bn H b vs gs) : DpAll K H vs (gs.map gd) := by
  induction h with
  | nil => exact .nil
  | cons n e _ ih => exact .cons (.lst (SqL.of e) (dp_nats _)) ih
theorem Bn.len {H : Hp} {b : Addr} {vs : List V} {gs : List (List Nat)} (h : Bn H b vs gs) : vs.length = gs.length := by
  induction h with
  | nil => rfl
  | cons n e _ ih => rw [List.length_cons, List.length_cons, ih]
def runAns (n w : Nat) (v : List Int) (g : List Nat) : List Int := Ks567Neutral.out (Ks567.answer (.run n w v g))
theorem runAns_no {n w : Nat} {v : List Int} {g : List Nat} (h : ¬ (okW n v ∧ okG n g ∧ w ≤ 2)) : runAns n w v g = [-22] := by
  unfold runAns Ks567.answer
  dsimp only
  rw [way_no h]
  rfl
theorem runAns_yes {n w : Nat} {v : List Int} {g : List Nat} (c : okW n v) (d : okG n g) (hw : w ≤ 2) {a : Nat} {b : Bool} {h : List Nat} (e : Ks567.run ⟨n, v⟩ w 60 (Ks565.tidy g) [] = (a, b, h)) :
    runAns n w v g = (a : Int) :: (if b then 1 else 0) :: Ks565.ints h := by
  unfold runAns Ks567.answer
  dsimp only
  rw [way_yes c d hw]
  show Ks567Neutral.out { ret := ((Ks567.run ⟨n, v⟩ w 60 (Ks565.tidy g) []).1 : Int), out := (if (Ks567.run ⟨n, v⟩ w 60 (Ks565.tidy g) []).2.1 then 1 else 0) :: Ks565.ints (Ks567.run ⟨n, v⟩ w 60 (Ks565.tidy g) []).2.2 } = _
  rw [e]
  rfl
theorem run_ans (n w : Int) (v gs : List Int) : PyKs567.run n w v gs = runAns n.toNat w.toNat v (gs.map Int.toNat) := rfl
def spRun (K : PySem.W.Frag) : Sp := fun vs H Q _ => ∃ (aw ag : Addr) (n w : Nat) (v : List Int) (g : List Nat), vs = [.int n, .int w, .ref aw, .ref ag] ∧ SqL K H aw (v.map V.int) ∧ SqL K H ag (nv g) ∧ n < 5000000000 ∧ g.length ≤ 900 ∧
  ∀ (H' : Hp) (p : Addr), H' p = some (.lst ((runAns n w v g).map V.int)) → Q (.ref p) H'
section
variable {P : Program} {w : World} {K : PySem.W.Frag} {mg : Str → Option Value} {base : Heap}
theorem scRun : FnScope ["n", "w", "worth", "groups", "now", "been", "move"] ["n", "w", "worth", "groups"] (defScope sRun) := ⟨rfl, rfl, rfl, by decide +kernel, rfl, by decide +kernel, by decide +kernel⟩
theorem ok_run {f : Addr} {fd : FuncData} (F : Fun K "run" "run" sRun f fd) (T : Txt mg) (CR : Cal P w K mg base 2 "is_refused" ["n", "w", "worth", "groups"] (spRef K))
    (CN : Cal P w K mg base 1 "numbered_as_they_come" ["groups"] (spNum K)) (CF : Cal P w K mg base 5 "first_move" ["n", "w", "worth", "groups"] (spFir K)) (CM : Cal P w K mg base 2 "moved" ["groups", "person", "number"] (spMov K)) :
    FnOk P w K mg base CX0 6 f fd ["n", "w", "worth", "groups"] (spRun K) := by
  refine F.ok scRun (fun vs H Q E h => ?_) (fun cdv A outer s H vs Q E hr h => ?_)
  · obtain ⟨aw, ag, n, w', v, g, rfl, _⟩ := h
    rfl
  · obtain ⟨aw, ag, n, w', v, g, rfl, hW, hG, hn, hlen, q⟩ := h
    have hr1 : Room 1 _ := hr.mono (by decide)
    have hr2 : Room 2 _ := hr.mono (by decide)
    have hu := hr.un
    refine ⟨_, pss_cons (ps_if (pt_val (pe_cal CR hr2 rfl (pa_cons (pv 0) (pa_cons (pv 1) (pa_cons (pv 2) (pa_cons (pv 3) pa_nil)))))) (pss_one (ps_ret (pe_lst (pa_cons (pe_gi rfl T.refused) pa_nil)))) pss_nil)
      (pss_cons (ps_set (i := 4) scRun.nd rfl (Or.inl rfl) (pe_cal CN hr1 rfl (pa_cons (pv 3) pa_nil)))
      (pss_cons (ps_set (i := 5) scRun.nd rfl (Or.inl rfl) (pe_lst pa_nil))
      (pss_cons (ps_while PassesOwn.never (pt_cmpR (op_notInD (Nat.lt_of_le_of_lt (Nat.le_trans (Nat.add_le_add_left (by decide : 65 ≤ 16 * 5 + 200) _) (Nat.le_of_eq (Nat.add_assoc _ _ _).symm)) hu)) (pv 4) (pv 5) rfl)
        (pss_cons (ps_set (i := 6) scRun.nd rfl (Or.inl rfl) (pe_cal CF hr rfl (pa_cons (pv 0) (pa_cons (pv 1) (pa_cons (pv 2) (pa_cons (pv 4) pa_nil))))))
        (pss_cons (ps_if (pt_cmpR op_isN (pv 6) pe_non (nomark _)) (pss_one (ps_ret (pe_op op_cat (pe_lst (pa_cons (pe_callB call_len_seq (by rfl) T.len PySem.boot_len (pa_cons (pv 5) pa_nil)) (pa_cons pe_int pa_nil))) (pv 4)))) pss_nil)
        (pss_cons (ps_expr (pe_bm PySem.F.plainAttrs_list PySem.F.slot_list_append PySem.F.type_list_append mt_append (pv 5) (pa_cons (pv 4) pa_nil)))
        (pss_one (ps_set (i := 4) scRun.nd rfl (Or.inl rfl) (pe_cal CM hr2 rfl (pa_cons (pv 4) (pa_cons (pe_ix ix_tup (pv 6) pe_int (fun _ _ => rfl)) (pa_cons (pe_ix ix_tup (pv 6) pe_int (fun _ _ => rfl)) pa_nil))))))))))
      (pss_one (ps_ret (pe_op op_cat (pe_lst (pa_cons (pe_callB call_len_seq (by rfl) T.len PySem.boot_len (pa_cons (pv 5) pa_nil)) (pa_cons pe_int pa_nil))) (pv 4))))))), ?_⟩
    refine ⟨_, rfl, _, rfl, _, rfl, _, rfl, aw, ag, n, w', v, g, rfl, hW, hG, hn, fun b hb => ⟨_, rfl, ?_⟩⟩
    cases b with
    | true =>
      refine iteT ⟨(by show 1 ≤ sizeLine; decide), fun p hp => q _ p ?_⟩
      rw [upd_same, runAns_no (fun z => Bool.noConfusion (hb.mpr z))]
      rfl
    | false =>
      refine iteF ?_
      obtain ⟨c, d, hw⟩ := hb.mp rfl
      refine ⟨_, rfl, ag, g, rfl, hG, hlen, fun H1 p1 s1 np1 e1 => ?_⟩
      refine ⟨Nat.zero_le _, fun pb npb => ?_⟩
      have h5 : n ≤ 5 := c.2.1
      have hpb : H pb = none := s1.free npb
      have n1b : p1 ≠ pb := ne_of_none e1 npb
      -- what is answered at an end
      have fin : ∀ (H' : Hp) (pn : Addr) (bs : List V) (past : List (List Nat)) (g' : List Nat) (b : Bool), H' pb = some (.lst bs) → Bn H' pb bs past → H' pn = some (.lst (nv g')) → g'.length = n → past.length ≤ 900 →
          Ks567.run ⟨n, v⟩ w' 60 (Ks565.tidy g) [] = (past.length, b, g') → ∀ p3, H' p3 = none → ∃ l b' xs zs, V.ref p3 = V.ref l ∧ V.ref pn = V.ref b' ∧ (upd H' p3 (.lst [.int (bs.length : Nat), .int (if b then 1 else 0)])) l = some (.lst xs) ∧
            (upd H' p3 (.lst [.int (bs.length : Nat), .int (if b then 1 else 0)])) b' = some (.lst zs) ∧ xs.length + zs.length ≤ sizeLine ∧
            ∀ p, (upd H' p3 (.lst [.int (bs.length : Nat), .int (if b then 1 else 0)])) p = none → Q (.ref p) (upd (upd H' p3 (.lst [.int (bs.length : Nat), .int (if b then 1 else 0)])) p (.lst (xs ++ zs))) := by
        intro H' pn bs past g' b k1 k2 k3 k4 k5 k6 p3 np3
        refine ⟨p3, pn, _, _, rfl, rfl, upd_same, (upd_ne (ne_of_none k3 np3)).trans k3, ?_, fun p5 np5 => q _ p5 ?_⟩
        · rw [nv_len, k4]
          refine Nat.le_of_lt (small1000 ?_)
          show 2 + n ≤ 1000
          omega
        · rw [upd_same, runAns_yes c d hw k6, nv_ints, k2.len]
          cases b <;> rfl
      refine ⟨fun m σ H' => ∃ (past : List (List Nat)) (g' : List Nat) (pn : Addr) (bs : List V) (mv : Option V), m = 60 - past.length ∧ σ = [some (.int n), some (.int w'), some (.ref aw), some (.ref ag), some (.ref pn), some (.ref pb), mv] ∧ Same H H' ∧
        H' pb = some (.lst bs) ∧ Bn H' pb bs past ∧ pn ≠ pb ∧ H' pn = some (.lst (nv g')) ∧ past.length ≤ 52 ∧ RI ⟨n, v⟩ w' (Ks567.run ⟨n, v⟩ w' 60 (Ks565.tidy g) []) past g',
        ⟨60, [], Ks565.tidy g, p1, [], none, rfl, rfl, s1.newer hpb, upd_same, .nil, n1b, (upd_ne n1b).trans e1, by decide, RI.start ⟨g, d.1, rfl⟩⟩, ?_⟩
      rintro m σ H' ⟨past, g', pn, bs, mv, rfl, rfl, s2, hb1, hb2, nnb, hpn, h52, R⟩
      refine ⟨_, rfl, _, rfl, gd g', past.map gd, .lst (SqL.of hpn) (dp_nats g'), .lst (SqL.of hb1) hb2.dp, gd_shaped g', gds_shaped past, _, rfl, ?_⟩
      rw [any_gd]
      by_cases m : g' ∈ past
      · refine if_nf m ?_
        exact ⟨_, rfl, pb, _, rfl, .inl (SqL.of hb1), (by show 2 ≤ sizeLine; decide), fun p3 np3 => ⟨_, rfl, fin H' pn bs past g' false hb1 hb2 hpn R.tg.len (by omega) (R.old m) p3 np3⟩⟩
      · refine if_nt m ⟨_, fun _ _ z => z, ?_⟩
        have f52 := R.few h5 m
        have O : Ok ⟨n, v⟩ g' := ⟨c.1, c.2.1, c.2.2.1, R.tg.len⟩
        refine ⟨_, rfl, _, rfl, _, rfl, _, rfl, aw, pn, ⟨n, v⟩, g', w', rfl, s2.seq hW, SqL.of hpn, O, hw, R.tg.lt, fun H0 s0 => ?_⟩
        have hb1 := s0 _ _ hb1
        have hb2 := hb2.keep fun a o _ h => s0 a o h
        have hpn := s0 _ _ hpn
        have s2 := s2.trans s0
        refine ⟨fun e => ?_, fun i k e p2 np2 => ?_⟩
        · refine ⟨_, rfl, rfl, _, rfl, if_t rfl ?_⟩
          exact ⟨_, rfl, pb, _, rfl, .inl (SqL.of hb1), (by show 2 ≤ sizeLine; decide), fun p3 np3 => ⟨_, rfl, fin H0 pn bs past g' true hb1 hb2 hpn R.tg.len (by omega) (R.rest h5 m e) p3 np3⟩⟩
        · refine ⟨_, rfl, rfl, _, rfl, if_f (fun z => by cases z) ?_⟩
          have hi := first_lt e
          have nb2 : pb ≠ p2 := ne_of_none hb1 np2
          have hb1' : ∀ o, (upd H0 p2 o) pb = some (.lst bs) := fun o => (upd_ne nb2).trans hb1
          have len' : bs.length < sizeLine := small1000 (by rw [hb2.len]; omega)
          refine ⟨_, rfl, .inl ⟨rfl, _, SqL.of (hb1' _)⟩, _, rfl, pb, _, _, rfl, rfl, hb1' _, len', ?_⟩
          have t2 : ∀ o, (upd (upd H0 p2 (.tup [.int (i : Nat), .int (k : Nat)])) pb o) p2 = some (.tup [.int (i : Nat), .int (k : Nat)]) := fun o => by
            rw [upd_ne nb2.symm, upd_same]
          have keep : ∀ (o : HO) (a : Addr) (u : HO), a ≠ pb → H0 a = some u → (upd (upd H0 p2 (.tup [.int (i : Nat), .int (k : Nat)])) pb o) a = some u := fun o a u na ha => by
            rw [upd_ne na, upd_ne (ne_of_none ha np2)]
            exact ha
          refine ⟨_, rfl, _, rfl, p2, _, _, _, rfl, rfl, SqT.of (t2 _), at_of (j := 0) rfl rfl, _, rfl, p2, _, _, _, rfl, rfl, SqT.of (t2 _), at_of (j := 1) rfl rfl, pn, g', i, k, rfl, .inl (SqL.of (keep _ _ _ nnb hpn)),
            by rw [R.tg.len]; show n ≤ 900; omega, by rw [R.tg.len]; exact hi.1, fun H4 p4 s4 np4 e4 => ?_⟩
          refine ⟨60 - (past ++ [g']).length, ?_, past ++ [g'], Ks565.go g' i k, p4, bs ++ [.ref pn], _, rfl, rfl, ((s2.trans (Same.new np2)).newer hpb).trans s4, s4 _ _ upd_same,
            (hb2.keep fun a o na ha => s4 _ _ (keep _ _ _ na ha)).snoc nnb (s4 _ _ (keep _ _ _ nnb hpn)), fun z => ?_, e4, ?_, R.move h5 m e⟩
          · rw [List.length_append]
            show 60 - (past.length + 1) < 60 - past.length
            omega
          · rw [z, upd_same] at np4
            cases np4
          · rw [List.length_append]
            show past.length + 1 ≤ 52
            omega
theorem req_run {H : Hp} {a b : Addr} {n w : Int} {v gs : List Int} {Q : VK} {E : XK} (h1 : SqL K H a (v.map V.int)) (h2 : SqL K H b (gs.map V.int)) (hn : 0 ≤ n ∧ n ≤ 4294967295) (hw : 0 ≤ w) (hl : gs.length ≤ 7) (hg : ∀ x ∈ gs, 0 ≤ x)
    (q : ∀ (H' : Hp) (p : Addr), H' p = some (.lst ((PyKs567.run n w v gs).map V.int)) → Q (.ref p) H') : spRun K [.int n, .int w, .ref a, .ref b] H Q E := by
  refine ⟨a, b, n.toNat, w.toNat, v, gs.map Int.toNat, ?_, h1, by rw [nv_toNat hg]; exact h2, by omega, by rw [List.length_map]; omega, fun H' p hp => q H' p ?_⟩
  · rw [Int.toNat_of_nonneg hn.1, Int.toNat_of_nonneg hw]
  · rw [run_ans]
    exact hp
end
end Mte
namespace Mte
open PySem PySem.Spec PyProof.Rows L2
theorem all_mk {P : Program} {w : World} {K : PySem.W.Frag} {h : Heap} {mg : Str → Option Value} {fa : Addr} (X : K.In h) (G : h.Ns mainGlobals mg) (hfa : mg "run" = some (.ref fa))
    {f1 f2 f3 f4 f5 f6 f7 f8 f9 f10 f11 f12 f13 : Addr} {od1 an1 od2 an2 od3 an3 od4 an4 od5 an5 od6 an6 od7 an7 od8 an8 od9 an9 od10 an10 od11 an11 od12 an12 od13 an13 : Option Addr} {sl1 sl2 sl3 sl4 sl5 sl6 sl7 sl8 sl9 sl10 sl11 sl12 sl13 : Array (Option Value)} {oc1 kV1 dc1 pm1 cd1 ct1 oc2 kV2 dc2 pm2 cd2 ct2 oc3 kV3 dc3 pm3 cd3 ct3 oc4 kV4 dc4 pm4 cd4 ct4 oc5 kV5 dc5 pm5 cd5 ct5 oc6 kV6 dc6 pm6 cd6 ct6 oc7 kV7 dc7 pm7 cd7 ct7 oc8 kV8 dc8 pm8 cd8 ct8 oc9 kV9 dc9 pm9 cd9 ct9 oc10 kV10 dc10 pm10 cd10 ct10 oc11 kV11 dc11 pm11 cd11 ct11 oc12 kV12 dc12 pm12 cd12 ct12 oc13 kV13 dc13 pm13 cd13 ct13 : Value} {tk0 tk1 tk2 tk3 tk4 tk5 : Tok}
    (a1 : PySem.W.nsIn K mainGlobals "worth_is_told" = some (some (.ref f1))) (l1 : K.lookup f1 = some ⟨oc1, od1, .func (PySem.W.fnOf "worth_is_told" "worth_is_told" (defArgs sWor) (defBody sWor) (defScope sWor) .none kV1 dc1 pm1 an1 cd1 ct1), sl1⟩) (c1 : PySem.W.codeIn K cd1 "worth_is_told" = true) (k1 : PySem.W.keepIn K (.ref f1) = true)
    (a2 : PySem.W.nsIn K mainGlobals "groups_are_told" = some (some (.ref f2))) (l2 : K.lookup f2 = some ⟨oc2, od2, .func (PySem.W.fnOf "groups_are_told" "groups_are_told" (defArgs sGro) (defBody sGro) (defScope sGro) .none kV2 dc2 pm2 an2 cd2 ct2), sl2⟩) (c2 : PySem.W.codeIn K cd2 "groups_are_told" = true) (k2 : PySem.W.keepIn K (.ref f2) = true)
    (a3 : PySem.W.nsIn K mainGlobals "is_refused" = some (some (.ref f3))) (l3 : K.lookup f3 = some ⟨oc3, od3, .func (PySem.W.fnOf "is_refused" "is_refused" (defArgs sRef) (defBody sRef) (defScope sRef) .none kV3 dc3 pm3 an3 cd3 ct3), sl3⟩) (c3 : PySem.W.codeIn K cd3 "is_refused" = true) (k3 : PySem.W.keepIn K (.ref f3) = true)
    (a4 : PySem.W.nsIn K mainGlobals "numbered_as_they_come" = some (some (.ref f4))) (l4 : K.lookup f4 = some ⟨oc4, od4, .func (PySem.W.fnOf "numbered_as_they_come" "numbered_as_they_come" (defArgs sNum) (defBody sNum) (defScope sNum) .none kV4 dc4 pm4 an4 cd4 ct4), sl4⟩) (c4 : PySem.W.codeIn K cd4 "numbered_as_they_come" = true) (k4 : PySem.W.keepIn K (.ref f4) = true)
    (a5 : PySem.W.nsIn K mainGlobals "has_with" = some (some (.ref f5))) (l5 : K.lookup f5 = some ⟨oc5, od5, .func (PySem.W.fnOf "has_with" "has_with" (defArgs sHas) (defBody sHas) (defScope sHas) .none kV5 dc5 pm5 an5 cd5 ct5), sl5⟩) (c5 : PySem.W.codeIn K cd5 "has_with" = true) (k5 : PySem.W.keepIn K (.ref f5) = true)
    (a6 : PySem.W.nsIn K mainGlobals "is_welcome" = some (some (.ref f6))) (l6 : K.lookup f6 = some ⟨oc6, od6, .func (PySem.W.fnOf "is_welcome" "is_welcome" (defArgs sWel) (defBody sWel) (defScope sWel) .none kV6 dc6 pm6 an6 cd6 ct6), sl6⟩) (c6 : PySem.W.codeIn K cd6 "is_welcome" = true) (k6 : PySem.W.keepIn K (.ref f6) = true)
    (a7 : PySem.W.nsIn K mainGlobals "is_let_go" = some (some (.ref f7))) (l7 : K.lookup f7 = some ⟨oc7, od7, .func (PySem.W.fnOf "is_let_go" "is_let_go" (defArgs sLet) (defBody sLet) (defScope sLet) .none kV7 dc7 pm7 an7 cd7 ct7), sl7⟩) (c7 : PySem.W.codeIn K cd7 "is_let_go" = true) (k7 : PySem.W.keepIn K (.ref f7) = true)
    (a8 : PySem.W.nsIn K mainGlobals "may_go" = some (some (.ref f8))) (l8 : K.lookup f8 = some ⟨oc8, od8, .func (PySem.W.fnOf "may_go" "may_go" (defArgs sMay) (defBody sMay) (defScope sMay) .none kV8 dc8 pm8 an8 cd8 ct8), sl8⟩) (c8 : PySem.W.codeIn K cd8 "may_go" = true) (k8 : PySem.W.keepIn K (.ref f8) = true)
    (a9 : PySem.W.nsIn K mainGlobals "where_one_may_go" = some (some (.ref f9))) (l9 : K.lookup f9 = some ⟨oc9, od9, .func (PySem.W.fnOf "where_one_may_go" "where_one_may_go" (defArgs sWhe) (defBody sWhe) (defScope sWhe) .none kV9 dc9 pm9 an9 cd9 ct9), sl9⟩) (c9 : PySem.W.codeIn K cd9 "where_one_may_go" = true) (k9 : PySem.W.keepIn K (.ref f9) = true)
    (a10 : PySem.W.nsIn K mainGlobals "best_group" = some (some (.ref f10))) (l10 : K.lookup f10 = some ⟨oc10, od10, .func (PySem.W.fnOf "best_group" "best_group" (defArgs sBes) (defBody sBes) (defScope sBes) .none kV10 dc10 pm10 an10 cd10 ct10), sl10⟩) (c10 : PySem.W.codeIn K cd10 "best_group" = true) (k10 : PySem.W.keepIn K (.ref f10) = true)
    (a11 : PySem.W.nsIn K mainGlobals "first_move" = some (some (.ref f11))) (l11 : K.lookup f11 = some ⟨oc11, od11, .func (PySem.W.fnOf "first_move" "first_move" (defArgs sFir) (defBody sFir) (defScope sFir) .none kV11 dc11 pm11 an11 cd11 ct11), sl11⟩) (c11 : PySem.W.codeIn K cd11 "first_move" = true) (k11 : PySem.W.keepIn K (.ref f11) = true)
    (a12 : PySem.W.nsIn K mainGlobals "moved" = some (some (.ref f12))) (l12 : K.lookup f12 = some ⟨oc12, od12, .func (PySem.W.fnOf "moved" "moved" (defArgs sMov) (defBody sMov) (defScope sMov) .none kV12 dc12 pm12 an12 cd12 ct12), sl12⟩) (c12 : PySem.W.codeIn K cd12 "moved" = true) (k12 : PySem.W.keepIn K (.ref f12) = true)
    (a13 : PySem.W.nsIn K mainGlobals "run" = some (some (.ref f13))) (l13 : K.lookup f13 = some ⟨oc13, od13, .func (PySem.W.fnOf "run" "run" (defArgs sRun) (defBody sRun) (defScope sRun) .none kV13 dc13 pm13 an13 cd13 ct13), sl13⟩) (c13 : PySem.W.codeIn K cd13 "run" = true) (k13 : PySem.W.keepIn K (.ref f13) = true)
    (ga0 : PySem.W.nsIn K mainGlobals "MOST_PEOPLE" = some (some (.int (5) tk0)))
    (ga1 : PySem.W.nsIn K mainGlobals "MOST_WORTH" = some (some (.int (20) tk1)))
    (ga2 : PySem.W.nsIn K mainGlobals "WHERE_WELCOME" = some (some (.int (1) tk2)))
    (ga3 : PySem.W.nsIn K mainGlobals "WHERE_LET_GO" = some (some (.int (2) tk3)))
    (ga4 : PySem.W.nsIn K mainGlobals "LAST_WAY" = some (some (.int (2) tk4)))
    (ga5 : PySem.W.nsIn K mainGlobals "REFUSED" = some (some (.int (-22) tk5)))
    (z0 : PySem.W.nsIn K mainGlobals "range" = some none)
    (z1 : PySem.W.nsIn K mainGlobals "max" = some none)
    (z2 : PySem.W.nsIn K mainGlobals "len" = some none)
    (z3 : PySem.W.nsIn K mainGlobals "list" = some none)
    : ∃ fd : FuncData, (∀ (s : Shared) (us : List Value), us.length = (["n", "w", "worth", "groups"] : List Str).length → BindsTo s fd ⟨us, []⟩ ((["n", "w", "worth", "groups"] : List Str).zip us)) ∧ ∀ base : Heap, K.In base → base.Ns mainGlobals mg → FnOk P w K mg base CX0 6 fa fd ["n", "w", "worth", "groups"] (spRun K) := by
  have e := hfa.symm.trans (PySem.W.mg_of X G a13)
  cases e
  have D_worth_is_told : Dfx K mg "worth_is_told" sWor ["n", "worth"] := dfx_mk X G a1 l1 c1 k1 fun _ _ _ _ _ _ us hl => match us, hl with | [_, _], _ => rfl
  have D_groups_are_told : Dfx K mg "groups_are_told" sGro ["n", "groups"] := dfx_mk X G a2 l2 c2 k2 fun _ _ _ _ _ _ us hl => match us, hl with | [_, _], _ => rfl
  have D_is_refused : Dfx K mg "is_refused" sRef ["n", "w", "worth", "groups"] := dfx_mk X G a3 l3 c3 k3 fun _ _ _ _ _ _ us hl => match us, hl with | [_, _, _, _], _ => rfl
  have D_numbered_as_they_come : Dfx K mg "numbered_as_they_come" sNum ["groups"] := dfx_mk X G a4 l4 c4 k4 fun _ _ _ _ _ _ us hl => match us, hl with | [_], _ => rfl
  have D_has_with : Dfx K mg "has_with" sHas ["n", "worth", "groups", "person", "number"] := dfx_mk X G a5 l5 c5 k5 fun _ _ _ _ _ _ us hl => match us, hl with | [_, _, _, _, _], _ => rfl
  have D_is_welcome : Dfx K mg "is_welcome" sWel ["n", "worth", "groups", "person", "number"] := dfx_mk X G a6 l6 c6 k6 fun _ _ _ _ _ _ us hl => match us, hl with | [_, _, _, _, _], _ => rfl
  have D_is_let_go : Dfx K mg "is_let_go" sLet ["n", "worth", "groups", "person"] := dfx_mk X G a7 l7 c7 k7 fun _ _ _ _ _ _ us hl => match us, hl with | [_, _, _, _], _ => rfl
  have D_may_go : Dfx K mg "may_go" sMay ["n", "w", "worth", "groups", "person", "number"] := dfx_mk X G a8 l8 c8 k8 fun _ _ _ _ _ _ us hl => match us, hl with | [_, _, _, _, _, _], _ => rfl
  have D_where_one_may_go : Dfx K mg "where_one_may_go" sWhe ["n", "w", "worth", "groups", "person"] := dfx_mk X G a9 l9 c9 k9 fun _ _ _ _ _ _ us hl => match us, hl with | [_, _, _, _, _], _ => rfl
  have D_best_group : Dfx K mg "best_group" sBes ["n", "w", "worth", "groups", "person"] := dfx_mk X G a10 l10 c10 k10 fun _ _ _ _ _ _ us hl => match us, hl with | [_, _, _, _, _], _ => rfl
  have D_first_move : Dfx K mg "first_move" sFir ["n", "w", "worth", "groups"] := dfx_mk X G a11 l11 c11 k11 fun _ _ _ _ _ _ us hl => match us, hl with | [_, _, _, _], _ => rfl
  have D_moved : Dfx K mg "moved" sMov ["groups", "person", "number"] := dfx_mk X G a12 l12 c12 k12 fun _ _ _ _ _ _ us hl => match us, hl with | [_, _, _], _ => rfl
  have F := fun_mk (st := sRun) l13 c13 k13
  refine ⟨PySem.W.fnOf "run" "run" (defArgs sRun) (defBody sRun) (defScope sRun) .none kV13 dc13 pm13 an13 cd13 ct13, fun s us hu => match us, hu with | [_, _, _, _], _ => .of_eq rfl, fun base _ _ => ?_⟩
  have TW : TxtW mg := ⟨PySem.W.mg_none_of X G z0, PySem.W.mg_none_of X G z2, gi_mk X G ga0, gi_mk X G ga1, gi_mk X G ga5⟩
  have T : Txt mg := ⟨TW, PySem.W.mg_none_of X G z1, PySem.W.mg_none_of X G z3, gi_mk X G ga2, gi_mk X G ga3, gi_mk X G ga4⟩
  have CH : Cal P w K mg base 1 "has_with" _ (spHas K) := ok_has D_has_with TW
  have CWe : Cal P w K mg base 1 "is_welcome" _ (spWel K) := ok_wel D_is_welcome T
  have CL : Cal P w K mg base 1 "is_let_go" _ (spLet K) := ok_let D_is_let_go T
  have CMa : Cal P w K mg base 2 "may_go" _ (spMay K) := ok_may D_may_go T CH CWe CL
  have CWh : Cal P w K mg base 3 "where_one_may_go" _ (spWhe K) := ok_whe D_where_one_may_go T CMa
  have CB : Cal P w K mg base 4 "best_group" _ (spBes K) := ok_bes D_best_group T CWh CH
  have CF : Cal P w K mg base 5 "first_move" _ (spFir K) := ok_fir D_first_move T CB
  have CN : Cal P w K mg base 1 "numbered_as_they_come" _ (spNum K) := ok_num D_numbered_as_they_come TW
  have CM : Cal P w K mg base 2 "moved" _ (spMov K) := ok_mov D_moved T CN
  have CWo : Cal P w K mg base 1 "worth_is_told" _ (spWor K) := ok_wor D_worth_is_told TW
  have CG : Cal P w K mg base 1 "groups_are_told" _ (spGro K) := ok_gro D_groups_are_told TW
  have CR : Cal P w K mg base 2 "is_refused" _ (spRef K) := ok_ref D_is_refused T CWo CG
  exact ok_run F T CR CN CF CM
end Mte
open PySem PySem.W PyProof.Rows
set_option maxRecDepth 100000 in
set_option maxHeartbeats 8000000 in
theorem PySem.Challenge.cw_movesthatend_s02_run_holds : PySem.Challenge.rw_movesthatend_s02_run.Holds := by
  w_on; k_headS; (case hw => exact ⟨[.int 0, .int 0, .list [], .list []], by decide +kernel, by decide +kernel⟩)
  k_fillS
  refine L2.walk_specK (r := PySem.Challenge.rw_movesthatend_s02_run) (k := 6) (CX := L2.CX0) (ps := ["n", "w", "worth", "groups"]) (sp := Mte.spRun) (by decide +kernel) rfl rfl ⟨rfl, by decide, by decide⟩ (fun w h Y => PySem.W.kIn_of Y) ?F ?S (fun _ _ _ _ z => z)
  case F =>
    intro w mg fa h Y KX G hmg
    refine' Mte.all_mk KX G hmg ?a1 ?l1 ?c1 ?k1 ?a2 ?l2 ?c2 ?k2 ?a3 ?l3 ?c3 ?k3 ?a4 ?l4 ?c4 ?k4 ?a5 ?l5 ?c5 ?k5 ?a6 ?l6 ?c6 ?k6 ?a7 ?l7 ?c7 ?k7 ?a8 ?l8 ?c8 ?k8 ?a9 ?l9 ?c9 ?k9 ?a10 ?l10 ?c10 ?k10 ?a11 ?l11 ?c11 ?k11 ?a12 ?l12 ?c12 ?k12 ?a13 ?l13 ?c13 ?k13 ?ga0 ?ga1 ?ga2 ?ga3 ?ga4 ?ga5 ?z0 ?z1 ?z2 ?z3
    (case a1 => k_is)
    (case l1 => k_is)
    (case c1 => k_is)
    (case k1 => k_is)
    (case a2 => k_is)
    (case l2 => k_is)
    (case c2 => k_is)
    (case k2 => k_is)
    (case a3 => k_is)
    (case l3 => k_is)
    (case c3 => k_is)
    (case k3 => k_is)
    (case a4 => k_is)
    (case l4 => k_is)
    (case c4 => k_is)
    (case k4 => k_is)
    (case a5 => k_is)
    (case l5 => k_is)
    (case c5 => k_is)
    (case k5 => k_is)
    (case a6 => k_is)
    (case l6 => k_is)
    (case c6 => k_is)
    (case k6 => k_is)
    (case a7 => k_is)
    (case l7 => k_is)
    (case c7 => k_is)
    (case k7 => k_is)
    (case a8 => k_is)
    (case l8 => k_is)
    (case c8 => k_is)
    (case k8 => k_is)
    (case a9 => k_is)
    (case l9 => k_is)
    (case c9 => k_is)
    (case k9 => k_is)
    (case a10 => k_is)
    (case l10 => k_is)
    (case c10 => k_is)
    (case k10 => k_is)
    (case a11 => k_is)
    (case l11 => k_is)
    (case c11 => k_is)
    (case k11 => k_is)
    (case a12 => k_is)
    (case l12 => k_is)
    (case c12 => k_is)
    (case k12 => k_is)
    (case a13 => k_is)
    (case l13 => k_is)
    (case c13 => k_is)
    (case k13 => k_is)
    (case ga0 => k_is)
    (case ga1 => k_is)
    (case ga2 => k_is)
    (case ga3 => k_is)
    (case ga4 => k_is)
    (case ga5 => k_is)
    (case z0 => k_is)
    (case z1 => k_is)
    (case z2 => k_is)
    (case z3 => k_is)
  case S =>
    intro K H xs a hO hwi hask hx
    cases hx with
    | cons h0 r0 =>
    cases r0 with
    | cons h1 r1 =>
    cases r1 with
    | cons h2 r2 =>
    cases r2 with
    | cons h3 r3 =>
    cases r3
    cases h0
    cases h1
    cases h2 with
    | lst s2 d2 =>
    cases h3 with
    | lst s3 d3 =>
    have e2 := L2.ints_dw a.2.2.1 _ d2
    subst e2
    have e3 := L2.ints_dw a.2.2.2.1 _ d3
    subst e3
    have wi : (Codec.inInt 0 4294967295 a.1 && (Codec.inInt 0 4294967295 a.2.1 && ((Codec.inLen 0 27 a.2.2.1 && a.2.2.1.all (Codec.inInt (-2147483648) 2147483647)) && ((Codec.inLen 0 7 a.2.2.2.1 && a.2.2.2.1.all (Codec.inInt 0 4294967295)) && true)))) = true := hwi
    simp only [Bool.and_eq_true, List.all_eq_true] at wi
    obtain ⟨i0, i1, _, ⟨i3, j3⟩, _⟩ := wi
    exact Mte.req_run s2 s3 (Codec.inInt_iff.mp i0) (Codec.inInt_iff.mp i1).1 (Codec.inNat_iff.mp i3).2 (fun x hx => (Codec.inInt_iff.mp (j3 x hx)).1) fun H' p hp => .lst (L2.SqL.of hp) (L2.dw_ints _)
#print axioms PySem.Challenge.cw_movesthatend_s02_run_holds
