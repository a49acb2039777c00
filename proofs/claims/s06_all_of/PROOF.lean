import PyProof.Rows.All
import Wide.All
import OpenK.AllK
import Wide.FinOn
import Open.SpecLaws
import KE.OsGo
import HandS.ForMost
import HandS.ForSpec
import HandS.Deep
import HandS.Walk
import HandS.TupLen
import PySem.Challenge.RW_movesthatend_s06_all_of
set_option Elab.async false
set_option maxRecDepth 100000
set_option maxHeartbeats 2000000
/-! ### The mathematics: the program's parts, each told by the specification's own functions -/
namespace Mte
open Ks565 (Folk)

/-- what person i has with those of group k among the first j people -/
def hasUp (t : Folk) (g : List Nat) (i k j : Nat) : Int := Ks565.with_ t i ((List.range j).filter fun o => g.getD o 0 == k)
def hasW (t : Folk) (g : List Nat) (i k : Nat) : Int := Ks565.with_ t i (Ks565.members g k)

theorem with_append (t : Folk) (i : Nat) (a b : List Nat) : Ks565.with_ t i (a ++ b) = (b.map (Ks565.likes t i)).foldl (· + ·) (Ks565.with_ t i a) := by
  unfold Ks565.with_
  rw [List.map_append, List.foldl_append]
theorem hasUp_zero (t : Folk) (g : List Nat) (i k : Nat) : hasUp t g i k 0 = 0 := rfl
theorem hasUp_in {t : Folk} {g : List Nat} {i k j : Nat} (h : g.getD j 0 = k) : hasUp t g i k (j + 1) = hasUp t g i k j + Ks565.likes t i j := by
  unfold hasUp
  rw [List.range_succ, List.filter_append, with_append]
  have e : ([j].filter fun o => g.getD o 0 == k) = [j] := by
    rw [List.filter_cons, if_pos (by rw [h]; exact beq_self_eq_true k)]
    rfl
  rw [e]
  rfl
theorem hasUp_out {t : Folk} {g : List Nat} {i k j : Nat} (h : ¬ g.getD j 0 = k) : hasUp t g i k (j + 1) = hasUp t g i k j := by
  unfold hasUp
  rw [List.range_succ, List.filter_append, with_append]
  have e : ([j].filter fun o => g.getD o 0 == k) = [] := by
    rw [List.filter_cons, if_neg (by simpa using h)]
    rfl
  rw [e]
  rfl
theorem hasUp_all {t : Folk} {g : List Nat} {i k n : Nat} (h : g.length = n) : hasUp t g i k n = hasW t g i k := by
  subst h
  rfl
theorem likes_self (t : Folk) (i : Nat) : Ks565.likes t i i = 0 := if_pos rfl
theorem likes_ne {t : Folk} {i j : Nat} (h : ¬ i = j) : Ks565.likes t i j = t.v.getD (i * t.n + j) 0 := if_neg h

/-! welcome, let go -/
theorem mem_members {g : List Nat} {k o : Nat} : o ∈ Ks565.members g k ↔ o < g.length ∧ g.getD o 0 = k := by
  unfold Ks565.members
  rw [List.mem_filter, List.mem_range]
  constructor
  · rintro ⟨a, b⟩
    exact ⟨a, by simpa using b⟩
  · rintro ⟨a, b⟩
    exact ⟨a, by simpa using b⟩
theorem welcome_true {t : Folk} {g : List Nat} {i k n : Nat} (hn : g.length = n) (h : ∀ o, o < n → g.getD o 0 = k → 0 ≤ Ks565.likes t o i) : Ks565.welcome t g i k = true := by
  unfold Ks565.welcome
  rw [List.all_eq_true]
  intro o ho
  obtain ⟨a, b⟩ := mem_members.mp ho
  exact decide_eq_true (h o (hn ▸ a) b)
theorem welcome_false {t : Folk} {g : List Nat} {i k n o : Nat} (hn : g.length = n) (h1 : o < n) (h2 : g.getD o 0 = k) (h3 : Ks565.likes t o i < 0) : Ks565.welcome t g i k = false := by
  unfold Ks565.welcome
  rw [List.all_eq_false]
  refine ⟨o, mem_members.mpr ⟨hn ▸ h1, h2⟩, ?_⟩
  simp only [decide_eq_true_eq]
  omega
theorem letGo_true {t : Folk} {g : List Nat} {i n : Nat} (hn : g.length = n) (h : ∀ o, o < n → o ≠ i → g.getD o 0 = g.getD i 0 → Ks565.likes t o i ≤ 0) : Ks565.letGo t g i = true := by
  unfold Ks565.letGo
  rw [List.all_eq_true]
  intro o ho
  obtain ⟨a, b⟩ := mem_members.mp ho
  by_cases e : o = i
  · simp [e]
  · rw [decide_eq_true (h o (hn ▸ a) e b), Bool.or_true]
theorem letGo_false {t : Folk} {g : List Nat} {i n o : Nat} (hn : g.length = n) (h1 : o < n) (h0 : o ≠ i) (h2 : g.getD o 0 = g.getD i 0) (h3 : 0 < Ks565.likes t o i) : Ks565.letGo t g i = false := by
  unfold Ks565.letGo
  rw [List.all_eq_false]
  refine ⟨o, mem_members.mpr ⟨hn ▸ h1, h2⟩, ?_⟩
  have e1 : (o == i) = false := by simpa using h0
  rw [e1, Bool.false_or]
  simp only [decide_eq_true_eq]
  omega

/-! may -/
theorem may_less {t : Folk} {w : Nat} {g : List Nat} {i k : Nat} (h : hasW t g i k ≤ hasW t g i (g.getD i 0)) : Ks565.may t w g i k = false := by
  have e : Ks565.rather t g i k = false := by
    unfold Ks565.rather
    have q : decide (Ks565.worth t g i < Ks565.with_ t i (Ks565.members g k)) = false := decide_eq_false (by
      show ¬ hasW t g i (g.getD i 0) < hasW t g i k
      omega)
    rw [q, Bool.and_false]
  unfold Ks565.may
  rw [e]
  rfl
theorem ne_of_more {t : Folk} {g : List Nat} {i k : Nat} (h : ¬ hasW t g i k ≤ hasW t g i (g.getD i 0)) : ¬ g.getD i 0 = k := by
  intro e
  rw [e] at h
  omega
theorem rather_true {t : Folk} {g : List Nat} {i k : Nat} (hk : k ≤ Ks565.groups g) (h : ¬ hasW t g i k ≤ hasW t g i (g.getD i 0)) : Ks565.rather t g i k = true := by
  unfold Ks565.rather
  have q : decide (Ks565.worth t g i < Ks565.with_ t i (Ks565.members g k)) = true := decide_eq_true (by
    show hasW t g i (g.getD i 0) < hasW t g i k
    omega)
  have q1 : (g.getD i 0 != k) = true := by simpa using ne_of_more h
  rw [q, q1, decide_eq_true hk]
  rfl
theorem may_not_welcome {t : Folk} {w : Nat} {g : List Nat} {i k : Nat} (hw : ¬ w = 0) (h : Ks565.welcome t g i k = false) : Ks565.may t w g i k = false := by
  unfold Ks565.may
  have q : (w == 0) = false := by simpa using hw
  rw [h, q]
  simp
theorem may_not_letGo {t : Folk} {w : Nat} {g : List Nat} {i k : Nat} (hw : w = 2) (h : Ks565.letGo t g i = false) : Ks565.may t w g i k = false := by
  unfold Ks565.may
  rw [h, hw]
  simp
theorem may_yes {t : Folk} {w : Nat} {g : List Nat} {i k : Nat} (hr : Ks565.rather t g i k = true) (h1 : w = 0 ∨ Ks565.welcome t g i k = true) (h2 : w ≠ 2 ∨ Ks565.letGo t g i = true) : Ks565.may t w g i k = true := by
  unfold Ks565.may
  rw [hr]
  have q1 : (w == 0 || Ks565.welcome t g i k) = true := by
    rcases h1 with h | h
    · simp [h]
    · simp [h]
  have q2 : (w != 2 || Ks565.letGo t g i) = true := by
    rcases h2 with h | h
    · simp [h]
    · simp [h]
  rw [q1, q2]
  rfl

/-! the best group of one person -/
def better (t : Folk) (g : List Nat) (i : Nat) (b : Option Nat) (k : Nat) : Option Nat := match b with
  | none => some k
  | some b => if hasW t g i b < hasW t g i k then some k else some b
def bestUp (t : Folk) (w : Nat) (g : List Nat) (i j : Nat) : Option Nat := ((List.range j).filter fun k => Ks565.may t w g i k).foldl (better t g i) none
def bestOf (t : Folk) (w : Nat) (g : List Nat) (i : Nat) : Option Nat := bestUp t w g i (Ks565.groups g + 1)
theorem bestUp_zero (t : Folk) (w : Nat) (g : List Nat) (i : Nat) : bestUp t w g i 0 = none := rfl
theorem bestUp_may {t : Folk} {w : Nat} {g : List Nat} {i j : Nat} (h : Ks565.may t w g i j = true) : bestUp t w g i (j + 1) = better t g i (bestUp t w g i j) j := by
  unfold bestUp
  rw [List.range_succ, List.filter_append, List.foldl_append, List.filter_cons, if_pos h]
  rfl
theorem bestUp_not {t : Folk} {w : Nat} {g : List Nat} {i j : Nat} (h : Ks565.may t w g i j = false) : bestUp t w g i (j + 1) = bestUp t w g i j := by
  unfold bestUp
  rw [List.range_succ, List.filter_append, List.foldl_append, List.filter_cons, if_neg (by rw [h]; exact Bool.false_ne_true)]
  rfl
theorem better_fold (t : Folk) (g : List Nat) (i : Nat) : ∀ (l : List Nat) (b : Nat), l.foldl (better t g i) (some b) = some (l.foldl (fun b k => if hasW t g i b < hasW t g i k then k else b) b)
  | [], b => rfl
  | k :: l, b => by
    rw [List.foldl_cons, List.foldl_cons]
    have e : better t g i (some b) k = some (if hasW t g i b < hasW t g i k then k else b) := by
      show (if hasW t g i b < hasW t g i k then some k else some b) = _
      split <;> rfl
    rw [e]
    exact better_fold t g i l _
theorem better_some {t : Folk} {g : List Nat} {i k : Nat} {b : Option Nat} : ∃ x, better t g i b k = some x ∧ (x = k ∨ b = some x) := by
  unfold better
  cases b with
  | none => exact ⟨k, rfl, .inl rfl⟩
  | some b =>
    by_cases c : hasW t g i b < hasW t g i k
    · exact ⟨k, by simp [c], .inl rfl⟩
    · exact ⟨b, by simp [c], .inr rfl⟩
theorem bestUp_lt {t : Folk} {w : Nat} {g : List Nat} {i : Nat} : ∀ (j : Nat) {b : Nat}, bestUp t w g i j = some b → b < j
  | 0, b, h => by rw [bestUp_zero] at h; cases h
  | j + 1, b, h => by
    cases c : Ks565.may t w g i j with
    | false =>
      rw [bestUp_not c] at h
      exact Nat.lt_succ_of_lt (bestUp_lt j h)
    | true =>
      rw [bestUp_may c] at h
      obtain ⟨x, e, q⟩ := better_some (t := t) (g := g) (i := i) (k := j) (b := bestUp t w g i j)
      rw [e] at h
      cases h
      rcases q with q | q
      · omega
      · exact Nat.lt_succ_of_lt (bestUp_lt j q)

/-! the first move -/
def firstMove (t : Folk) (w : Nat) (g : List Nat) : Option (Nat × Nat) := (List.range t.n).findSome? fun i => (bestOf t w g i).map fun k => (i, k)
def ks (t : Folk) (w : Nat) (g : List Nat) (i : Nat) : List Nat := (List.range (Ks565.groups g + 1)).filter fun k => Ks565.may t w g i k
theorem pair_fold (t : Folk) (g : List Nat) (i : Nat) : ∀ (l : List Nat) (b : Nat), (l.map fun k => (i, k)).foldl (fun (b q : Nat × Nat) => if Ks565.with_ t i (Ks565.members g b.2) < Ks565.with_ t i (Ks565.members g q.2) then q else b) (i, b)
      = (i, l.foldl (fun b k => if hasW t g i b < hasW t g i k then k else b) b)
  | [], b => rfl
  | k :: l, b => by
    rw [List.map_cons, List.foldl_cons, List.foldl_cons]
    by_cases c : hasW t g i b < hasW t g i k
    · rw [if_pos c, if_pos (show Ks565.with_ t i (Ks565.members g (i, b).2) < Ks565.with_ t i (Ks565.members g (i, k).2) from c)]
      exact pair_fold t g i l k
    · rw [if_neg c, if_neg (show ¬ Ks565.with_ t i (Ks565.members g (i, b).2) < Ks565.with_ t i (Ks565.members g (i, k).2) from c)]
      exact pair_fold t g i l b
def stepOf (t : Folk) (g : List Nat) : List (Nat × Nat) → Option (Nat × Nat × List Nat)
  | [] => none
  | p :: l =>
    let mine := (p :: l).filter fun q => q.1 == p.1
    let k := (mine.foldl (fun b q => if Ks565.with_ t p.1 (Ks565.members g b.2) < Ks565.with_ t p.1 (Ks565.members g q.2) then q else b) p).2
    some (p.1, k, Ks565.go g p.1 k)
theorem stepOf_eq (t : Folk) (w : Nat) (g : List Nat) : Ks567.step t w g = stepOf t g (Ks565.moves t w g) := by
  unfold Ks567.step stepOf
  rfl
theorem bestOf_ks (t : Folk) (w : Nat) (g : List Nat) (i : Nat) : bestOf t w g i = (ks t w g i).foldl (better t g i) none := rfl
theorem stepOf_moves (t : Folk) (w : Nat) (g : List Nat) : ∀ L : List Nat, L.Nodup →
    stepOf t g (L.flatMap fun i => (ks t w g i).map fun k => (i, k)) = (L.findSome? fun i => (bestOf t w g i).map fun k => (i, k)).map fun p => (p.1, p.2, Ks565.go g p.1 p.2)
  | [], _ => rfl
  | i :: L, hn => by
    rw [List.nodup_cons] at hn
    rw [List.flatMap_cons, List.findSome?_cons, bestOf_ks]
    cases e : ks t w g i with
    | nil =>
      rw [List.map_nil, List.nil_append, List.foldl_nil, Option.map_none]
      exact stepOf_moves t w g L hn.2
    | cons k l =>
      rw [List.foldl_cons]
      have e1 : better t g i none k = some k := rfl
      rw [e1, better_fold, Option.map_some, Option.map_some, List.map_cons, List.cons_append]
      have f1 : ((i, k) :: ((l.map fun k => (i, k)) ++ L.flatMap fun i => (ks t w g i).map fun k => (i, k))).filter (fun q => q.1 == i) = (i, k) :: l.map fun k => (i, k) := by
        rw [List.filter_cons, if_pos (by exact beq_self_eq_true i), List.filter_append]
        have a : (l.map fun k => (i, k)).filter (fun q => q.1 == i) = l.map fun k => (i, k) := by
          rw [List.filter_eq_self]
          intro q hq
          obtain ⟨y, _, rfl⟩ := List.mem_map.mp hq
          exact beq_self_eq_true i
        have b : (L.flatMap fun i => (ks t w g i).map fun k => (i, k)).filter (fun q => q.1 == i) = [] := by
          rw [List.filter_eq_nil_iff]
          intro q hq
          obtain ⟨j, hj, hq⟩ := List.mem_flatMap.mp hq
          obtain ⟨y, _, rfl⟩ := List.mem_map.mp hq
          intro z
          have z' : j = i := by simpa using z
          exact hn.1 (z' ▸ hj)
        rw [a, b, List.append_nil]
      unfold stepOf
      dsimp only
      rw [f1, List.foldl_cons, if_neg (by omega), pair_fold]
theorem step_is (t : Folk) (w : Nat) (g : List Nat) : Ks567.step t w g = (firstMove t w g).map fun p => (p.1, p.2, Ks565.go g p.1 p.2) := by
  rw [stepOf_eq]
  exact stepOf_moves t w g (List.range t.n) List.nodup_range
/-- nobody of the first j may go -/
def noneUp (t : Folk) (w : Nat) (g : List Nat) (j : Nat) : Prop := ∀ i, i < j → bestOf t w g i = none
theorem first_none {t : Folk} {w : Nat} {g : List Nat} (h : noneUp t w g t.n) : firstMove t w g = none := by
  unfold firstMove
  rw [List.findSome?_eq_none_iff]
  intro i hi
  rw [h i (List.mem_range.mp hi)]
  rfl
theorem first_some {t : Folk} {w : Nat} {g : List Nat} {i k : Nat} (h : noneUp t w g i) (hi : i < t.n) (e : bestOf t w g i = some k) : firstMove t w g = some (i, k) := by
  have aux : ∀ (m : Nat) (s : Nat), s + m = t.n → s ≤ i → (List.range' s m).findSome? (fun i => (bestOf t w g i).map fun k => (i, k)) = some (i, k) := by
    intro m
    induction m with
    | zero =>
      intro s a b
      omega
    | succ m ih =>
      intro s a b
      rw [List.range'_succ, List.findSome?_cons]
      by_cases c : s = i
      · subst c
        rw [e]
        rfl
      · rw [h s (by omega)]
        exact ih (s + 1) (by omega) (by omega)
  unfold firstMove
  rw [List.range_eq_range']
  exact aux t.n 0 (by omega) (by omega)
theorem first_lt {t : Folk} {w : Nat} {g : List Nat} {i k : Nat} (h : firstMove t w g = some (i, k)) : i < t.n ∧ k ≤ Ks565.groups g := by
  obtain ⟨j, hj, e⟩ := List.exists_of_findSome?_eq_some h
  cases c : bestOf t w g j with
  | none =>
    rw [c] at e
    cases e
  | some b =>
    rw [c] at e
    cases e
    exact ⟨List.mem_range.mp hj, Nat.le_of_lt_succ (bestUp_lt _ c)⟩

/-! groups numbered as they come -/
def firsts (g : List Nat) : List Nat := g.foldl (fun l x => if l.contains x then l else l ++ [x]) []
def idx (l : List Nat) (x : Nat) : Nat := (l.takeWhile fun y => y != x).length
theorem tidy_eq (g : List Nat) : Ks565.tidy g = g.map (idx (firsts g)) := rfl
theorem firsts_in {pre : List Nat} {x : Nat} (h : x ∈ firsts pre) : firsts (pre ++ [x]) = firsts pre := by
  unfold firsts at *
  rw [List.foldl_append, List.foldl_cons, List.foldl_nil, if_pos (by simpa using h)]
theorem firsts_new {pre : List Nat} {x : Nat} (h : ¬ x ∈ firsts pre) : firsts (pre ++ [x]) = firsts pre ++ [x] := by
  unfold firsts at *
  rw [List.foldl_append, List.foldl_cons, List.foldl_nil, if_neg (by simpa using h)]
theorem firsts_mem {pre : List Nat} {x : Nat} : x ∈ firsts pre ↔ x ∈ pre := by
  have aux : ∀ (r pre : List Nat), (∀ x, x ∈ firsts pre ↔ x ∈ pre) → ∀ x, x ∈ firsts (pre ++ r) ↔ x ∈ pre ++ r := by
    intro r
    induction r with
    | nil =>
      intro pre h x
      rw [List.append_nil]
      exact h x
    | cons y r ih =>
      intro pre h x
      rw [show pre ++ y :: r = (pre ++ [y]) ++ r from by rw [List.append_assoc]; rfl]
      refine ih (pre ++ [y]) (fun x => ?_) x
      by_cases c : y ∈ firsts pre
      · rw [firsts_in c, h x, List.mem_append]
        constructor
        · exact .inl
        · rintro (a | a)
          · exact a
          · rw [List.mem_singleton] at a
            rw [a]
            exact (h y).mp c
      · rw [firsts_new c, List.mem_append, List.mem_append, h x]
  have q := aux pre [] (fun x => Iff.rfl) x
  rw [List.nil_append] at q
  exact q
theorem takeWhile_more {p : Nat → Bool} : ∀ (a b : List Nat), (∃ y ∈ a, p y = false) → (a ++ b).takeWhile p = a.takeWhile p
  | [], b, h => by
    obtain ⟨y, hy, _⟩ := h
    cases hy
  | x :: a, b, h => by
    rw [List.cons_append, List.takeWhile_cons, List.takeWhile_cons]
    cases c : p x with
    | false => simp
    | true =>
      simp only [if_true]
      rw [takeWhile_more a b]
      obtain ⟨y, hy, e⟩ := h
      rcases List.mem_cons.mp hy with z | z
      · rw [z, c] at e
        cases e
      · exact ⟨y, z, e⟩
theorem idx_more {l m : List Nat} {x : Nat} (h : x ∈ l) : idx (l ++ m) x = idx l x := by
  unfold idx
  rw [takeWhile_more l m ⟨x, h, by simp⟩]
theorem takeWhile_all {p : Nat → Bool} : ∀ (a b : List Nat), (∀ y ∈ a, p y = true) → (a ++ b).takeWhile p = a ++ b.takeWhile p
  | [], b, _ => rfl
  | x :: a, b, h => by
    rw [List.cons_append, List.takeWhile_cons, if_pos (h x (List.mem_cons_self ..)), takeWhile_all a b (fun y hy => h y (List.mem_cons_of_mem _ hy))]
    rfl
theorem idx_new {l : List Nat} {x : Nat} (h : ¬ x ∈ l) : idx (l ++ [x]) x = l.length := by
  unfold idx
  rw [takeWhile_all l [x] (fun y hy => by
    have : y ≠ x := fun z => h (z ▸ hy)
    simpa using this)]
  simp
theorem map_idx_more {pre l m : List Nat} (h : ∀ x ∈ pre, x ∈ l) : pre.map (idx (l ++ m)) = pre.map (idx l) :=
  List.map_congr_left fun x hx => idx_more (h x hx)
/-- what is told of the first ones stays so -/
def tidyUp (pre : List Nat) : List Nat := pre.map (idx (firsts pre))
theorem tidy_up (g : List Nat) : Ks565.tidy g = tidyUp g := rfl
theorem tidyUp_in {pre : List Nat} {x : Nat} (h : x ∈ firsts pre) : tidyUp (pre ++ [x]) = tidyUp pre ++ [idx (firsts pre) x] := by
  unfold tidyUp
  rw [firsts_in h, List.map_append]
  rfl
theorem tidyUp_new {pre : List Nat} {x : Nat} (h : ¬ x ∈ firsts pre) : tidyUp (pre ++ [x]) = tidyUp pre ++ [(firsts pre).length] := by
  unfold tidyUp
  rw [firsts_new h, List.map_append, map_idx_more (fun x hx => firsts_mem.mpr hx)]
  rw [List.map_cons, List.map_nil, idx_new h]
theorem tidy_length (g : List Nat) : (Ks565.tidy g).length = g.length := by
  rw [tidy_eq, List.length_map]
theorem firsts_nodup_len : ∀ (r pre : List Nat), (firsts pre).length ≤ pre.length → (firsts (pre ++ r)).length ≤ (pre ++ r).length
  | [], pre, h => by
    rw [List.append_nil]
    exact h
  | y :: r, pre, h => by
    rw [show pre ++ y :: r = (pre ++ [y]) ++ r from by rw [List.append_assoc]; rfl]
    refine firsts_nodup_len r (pre ++ [y]) ?_
    by_cases c : y ∈ firsts pre
    · rw [firsts_in c, List.length_append]
      exact Nat.le_trans h (Nat.le_add_right _ _)
    · rw [firsts_new c, List.length_append, List.length_append]
      exact Nat.add_le_add_right h _
theorem firsts_len (g : List Nat) : (firsts g).length ≤ g.length := by
  have q := firsts_nodup_len g [] (Nat.le_refl _)
  rw [List.nil_append] at q
  exact q
theorem idx_lt {l : List Nat} {x : Nat} (h : x ∈ l) : idx l x < l.length := by
  unfold idx
  induction l with
  | nil => cases h
  | cons y l ih =>
    rw [List.takeWhile_cons]
    by_cases c : y = x
    · simp [c]
    · have q : (y != x) = true := by simpa using c
      rw [if_pos q, List.length_cons, List.length_cons]
      rcases List.mem_cons.mp h with z | z
      · exact absurd z.symm c
      · exact Nat.succ_lt_succ (ih z)
theorem tidy_lt {g : List Nat} {x : Nat} (h : x ∈ Ks565.tidy g) : x < g.length := by
  rw [tidy_eq] at h
  obtain ⟨y, hy, rfl⟩ := List.mem_map.mp h
  exact Nat.lt_of_lt_of_le (idx_lt (firsts_mem.mpr hy)) (firsts_len g)

/-! the greatest number of a group -/
theorem foldl_max_le : ∀ (l : List Nat) (b m : Nat), b ≤ m → (∀ x ∈ l, x ≤ m) → l.foldl max b ≤ m
  | [], b, m, h, _ => h
  | x :: l, b, m, h, k => by
    rw [List.foldl_cons]
    exact foldl_max_le l (max b x) m (Nat.max_le.mpr ⟨h, k x (List.mem_cons_self ..)⟩) fun y hy => k y (List.mem_cons_of_mem _ hy)
theorem le_foldl_max : ∀ (l : List Nat) (b : Nat), b ≤ l.foldl max b ∧ ∀ x ∈ l, x ≤ l.foldl max b
  | [], b => ⟨Nat.le_refl _, fun x h => by cases h⟩
  | x :: l, b => by
    rw [List.foldl_cons]
    obtain ⟨a, c⟩ := le_foldl_max l (max b x)
    refine ⟨Nat.le_trans (Nat.le_max_left b x) a, fun y hy => ?_⟩
    rcases List.mem_cons.mp hy with z | z
    · rw [z]
      exact Nat.le_trans (Nat.le_max_right b x) a
    · exact c y z
theorem groups_of {g : List Nat} {m : Nat} (h : m ∈ g) (k : ∀ x ∈ g, x ≤ m) : Ks565.groups g = m + 1 := by
  unfold Ks565.groups
  have a := foldl_max_le g 0 m (Nat.zero_le _) k
  have b := (le_foldl_max g 0).2 m h
  omega

/-! the refusals -/
theorem folk_none {n : Nat} {v : List Int} {f : Folk → Ks565.Ans} (h : n < 1 ∨ 5 < n ∨ v.length ≠ n * n ∨ ∃ x ∈ v, x < -20 ∨ 20 < x) : Ks565.folk n v f = Ks565.no (-22) := by
  have e : Ks565.folkOf n v = none := by
    unfold Ks565.folkOf
    rw [if_pos]
    rcases h with h | h | h | ⟨x, hx, h⟩
    · exact .inl h
    · exact .inr (.inl h)
    · exact .inr (.inr (.inl h))
    · refine .inr (.inr (.inr ?_))
      rw [List.any_eq_true]
      exact ⟨x, hx, decide_eq_true (by show 20 < x.natAbs; omega)⟩
  unfold Ks565.folk
  rw [e]
theorem folk_some {n : Nat} {v : List Int} {f : Folk → Ks565.Ans} (h1 : 1 ≤ n) (h5 : n ≤ 5) (hl : v.length = n * n) (hv : ∀ x ∈ v, -20 ≤ x ∧ x ≤ 20) : Ks565.folk n v f = f ⟨n, v⟩ := by
  have e : Ks565.folkOf n v = some ⟨n, v⟩ := by
    unfold Ks565.folkOf
    rw [if_neg]
    rintro (h | h | h | h)
    · omega
    · have h' : 5 < n := h
      omega
    · exact h hl
    · rw [List.any_eq_true] at h
      obtain ⟨x, hx, h⟩ := h
      have h' : 20 < x.natAbs := of_decide_eq_true h
      have := hv x hx
      omega
  unfold Ks565.folk
  rw [e]
end Mte
/-! ### The layer: what stands in memory, and small words -/
namespace Mte
open PySem PySem.Spec PyProof.Rows L2
open Ks565 (Folk)
def nv (g : List Nat) : List V := g.map fun (x : Nat) => V.int (x : Int)
theorem nv_len (g : List Nat) : (nv g).length = g.length := List.length_map ..
theorem nv_at {g : List Nat} {i x : Nat} (h : g[i]? = some x) : (nv g)[i]? = some (V.int (x : Int)) := by
  unfold nv
  rw [List.getElem?_map, h]
  rfl
theorem getD_at {g : List Nat} {i : Nat} (h : i < g.length) : g[i]? = some (g.getD i 0) := by
  rw [List.getD_eq_getElem?_getD, List.getElem?_eq_getElem h]
  rfl
theorem getDI_at {g : List Int} {i : Nat} (h : i < g.length) : g[i]? = some (g.getD i 0) := by
  rw [List.getD_eq_getElem?_getD, List.getElem?_eq_getElem h]
  rfl
theorem of_map_at {α : Type} {f : α → V} {l : List α} {i : Nat} {y : V} (h : (l.map f)[i]? = some y) : ∃ x, l[i]? = some x ∧ y = f x := by
  rw [List.getElem?_map] at h
  cases e : l[i]? with
  | none =>
    rw [e] at h
    cases h
  | some x =>
    rw [e] at h
    exact ⟨x, rfl, (Option.some.inj h).symm⟩
theorem take_more {α : Type} {l : List α} {i : Nat} {x : α} (h : l[i]? = some x) : l.take (i + 1) = l.take i ++ [x] := by
  rw [List.take_add_one, h]
  rfl
/-- n people, their worths, their groups, as they should be -/
structure Ok (t : Folk) (g : List Nat) : Prop where
  n1 : 1 ≤ t.n
  n5 : t.n ≤ 5
  hv : t.v.length = t.n * t.n
  hg : g.length = t.n
theorem Ok.gat {t : Folk} {g : List Nat} (h : Ok t g) {i : Nat} (hi : i < t.n) : atI (nv g) (i : Int) = some (V.int (g.getD i 0 : Nat)) :=
  atI_nat (nv_at (getD_at (h.hg ▸ hi)))
theorem place_lt {n i j : Nat} (hi : i < n) (hj : j < n) : i * n + j < n * n := by
  have h1 : (i + 1) * n ≤ n * n := Nat.mul_le_mul_right n hi
  rw [Nat.add_mul, Nat.one_mul] at h1
  omega
theorem Ok.vat {t : Folk} {g : List Nat} (h : Ok t g) {i j : Nat} (hi : i < t.n) (hj : j < t.n) : atI (t.v.map V.int) ((i : Int) * (t.n : Int) + (j : Int)) = some (V.int (t.v.getD (i * t.n + j) 0)) := by
  have e : (i : Int) * (t.n : Int) + (j : Int) = ((i * t.n + j : Nat) : Int) := by
    rw [Int.natCast_add, Int.natCast_mul]
  rw [e]
  refine atI_nat ?_
  rw [List.getElem?_map, getDI_at (by rw [h.hv]; exact place_lt hi hj)]
  rfl
theorem mul_small {i n : Nat} (h : i < 5000000000) : CMul (i : Int) (n : Int) := .inl ⟨by omega, by omega⟩
/-! tests -/
theorem if_t {c A B : Prop} [Decidable c] (h : c) (a : A) : if decide c = true then A else B := by
  rw [decide_eq_true h]
  exact iteT a
theorem if_f {c A B : Prop} [Decidable c] (h : ¬ c) (b : B) : if decide c = true then A else B := by
  rw [decide_eq_false h]
  exact iteF b
theorem if_nt {c A B : Prop} [Decidable c] (h : ¬ c) (a : A) : if (!decide c) = true then A else B := by
  rw [decide_eq_false h]
  exact iteT a
theorem if_nf {c A B : Prop} [Decidable c] (h : c) (b : B) : if (!decide c) = true then A else B := by
  rw [decide_eq_true h]
  exact iteF b
theorem if_bt {c : Bool} {A B : Prop} (h : c = true) (a : A) : if c = true then A else B := by
  rw [h]
  exact iteT a
theorem if_bf {c : Bool} {A B : Prop} (h : c = false) (b : B) : if c = true then A else B := by
  rw [h]
  exact iteF b
theorem vne {a b : Nat} (h : ¬ a = b) : ¬ V.int (a : Int) = V.int (b : Int) := fun z => h (Int.ofNat_inj.mp (V.int.inj z))
theorem veq {a b : Nat} (h : a = b) : V.int (a : Int) = V.int (b : Int) := by rw [h]
/-! the module's names: a number; a def with its promise -/
def GI (mg : Str → Option Value) (x : Str) (i : Int) : Prop := ∃ tk : Tok, mg x = some (.int i tk)
theorem pe_gi {X : Cx} {x : Str} {i : Int} {pos : Pos} (hg : Gl X x) (h : GI X.mg x i) (hd : (x == ("__debug__" : Str)) = false := by decide) : PE X (.Name x pos) (tC (.int i)) := by
  obtain ⟨tk, h⟩ := h
  exact pe_glob hg h ⟨_, rfl⟩ hd
/-- the def of that name stands as the text has it -/
def Dfx (K : PySem.W.Frag) (mg : Str → Option Value) (x : Str) (st : Stmt) (ps : List Str) : Prop := ∃ (f : Addr) (fd : FuncData), Fun K x x st f fd ∧ Binds K fd ps [] ∧ mg x = some (.ref f)
/-- it keeps its promise -/
def Cal (P : Program) (w : World) (K : PySem.W.Frag) (mg : Str → Option Value) (base : Heap) (k : Nat) (x : Str) (ps : List Str) (sp : Sp) : Prop :=
  ∃ (f : Addr) (fd : FuncData), FnOk P w K mg base CX0 k f fd ps sp ∧ Binds K fd ps [] ∧ mg x = some (.ref f) ∧ PySem.W.keepIn K (.ref f) = true
theorem pe_cal {X : Cx} {k : Nat} {x : Str} {ps : List Str} {sp : Sp} {e : Expr} {es : List Expr} {t : TA} {p pos : Pos} (C : Cal X.prog X.w X.K X.mg X.base k x ps sp) (hr : Room k X.A) (hg : Gl X x) (ha : PA X (e :: es) t)
    (hdb : (x == ("__debug__" : Str)) = false := by decide) (he : starEach (e :: es) X.env = (false, eval e X.env) :: starEach es X.env := by rfl) (hpl : (backTo pos (starEach es X.env)).any (·.1) = false := by rfl) :
    PE X (.Call (.Name x p) (e :: es) [] pos) (tCall sp [] E0 t) := by
  obtain ⟨f, fd, F, b, m, kp⟩ := C
  exact pe_call F hr hg m kp b .nil pass0 ha hdb he hpl
theorem dfx_mk {K : PySem.W.Frag} {h : Heap} {mg : Str → Option Value} (X : K.In h) (G : h.Ns mainGlobals mg) {x : Str} {st : Stmt} {ps : List Str} {f : Addr} {oc : Value} {od an : Option Addr} {osl : Array (Option Value)} {kV doc pm cdv ct : Value}
    (a : PySem.W.nsIn K mainGlobals x = some (some (.ref f))) (l : K.lookup f = some ⟨oc, od, .func (PySem.W.fnOf x x (defArgs st) (defBody st) (defScope st) .none kV doc pm an cdv ct), osl⟩) (c : PySem.W.codeIn K cdv x = true) (k : PySem.W.keepIn K (.ref f) = true)
    (hb : ∀ (kV doc pm : Value) (an : Option Addr) (cdv ct : Value) (us : List Value), us.length = ps.length → bindArgs (PySem.W.fnOf x x (defArgs st) (defBody st) (defScope st) .none kV doc pm an cdv ct) ⟨us, []⟩ = pure (ps.zip us)) : Dfx K mg x st ps :=
  ⟨f, _, fun_mk l c k, (fun_mk l c k).binds hb, PySem.W.mg_of X G a⟩
theorem gi_mk {K : PySem.W.Frag} {h : Heap} {mg : Str → Option Value} (X : K.In h) (G : h.Ns mainGlobals mg) {x : Str} {i : Int} {tk : Tok} (a : PySem.W.nsIn K mainGlobals x = some (some (.int i tk))) : GI mg x i := ⟨tk, PySem.W.mg_of X G a⟩
/-- Fun.ok over these -/
theorem Dfx.ok {P : Program} {w : World} {K : PySem.W.Frag} {mg : Str → Option Value} {base : Heap} {x : Str} {st : Stmt} {N ps : List Str} {k : Nat} {sp : Sp} (D : Dfx K mg x st ps) (S : FnScope N ps (defScope st)) (len : ∀ vs H Q E, sp vs H Q E → vs.length = ps.length)
    (hbody : ∀ (f : Addr) (cdv : Value) (A : Around) (outer : List Env) (s : Shared) (H : Hp) (vs : List V) (Q : VK) (E : XK), Room k (A.deeper (envOfC x (defScope st) s.heap.objs.size f cdv)) → sp vs H Q E →
      ∃ t, PSs (cxOf CX0 P w K mg base N x (defScope st) f cdv A outer s H E).nox (defBody st) t ∧ t { nx := fun _ H' => Q .non H', rt := Q } (start N vs) H) : Cal P w K mg base (k + 1) x ps sp := by
  obtain ⟨f, fd, F, b, m⟩ := D
  exact ⟨f, fd, F.ok S len (hbody f), b, m, F.kp⟩
end Mte
/-! ### What is read from a list or a tuple, whichever it is -/
namespace Mte
open PySem PySem.Spec PyProof.Rows L2
def SqA (K : PySem.W.Frag) (H : Hp) (a : Addr) (xs : List V) : Prop := SqL K H a xs ∨ SqT K H a xs
theorem _root_.L2.Same.any {K : PySem.W.Frag} {H H' : Hp} {a : Addr} {xs : List V} (e : Same H H') (h : SqA K H a xs) : SqA K H' a xs := by
  rcases h with h | ((h | ⟨o, h⟩) | h)
  · exact .inl (e.seq h)
  · exact .inr (.inl (.inl (e _ _ h)))
  · exact .inr (.inl (.inr ⟨o, e _ _ h⟩))
  · exact .inr (.inr h)
section
variable {X : Cx}
def rIxA (K : PySem.W.Frag) : R2 := fun x y H Q => ∃ p xs i v, x = .ref p ∧ y = .int i ∧ SqA K H p xs ∧ atI xs i = some v ∧ Q v H
theorem ix_any : IxR X (rIxA X.K) := fun value slice pins s σ H x y v u Q I rx ry ⟨p, xs, i, z, e1, e2, hq, he, q⟩ hs =>
  hq.elim (fun hq => ix_list value slice pins s σ H x y v u Q I rx ry ⟨p, xs, i, z, e1, e2, hq, he, q⟩ hs) (fun hq => ix_tup value slice pins s σ H x y v u Q I rx ry ⟨p, xs, i, z, e1, e2, hq, he, q⟩ hs)
/-- the numbers that stand behind the values of a tuple, by their places -/
theorem num_at {ns : List Int} {its : List Value} (r : Vals (ns.map V.int) its) {i : Nat} {v : Value} (e : its.toArray[i]? = some v) : i < ns.length ∧ ∃ t, v = .int (ns.getD i 0) t := by
  have e' : its[i]? = some v := by simpa using e
  obtain ⟨hi, _⟩ := List.getElem?_eq_some_iff.mp e'
  have hl := r.length
  rw [List.length_map] at hl
  have hn : i < ns.length := by omega
  obtain ⟨u, eu, ru⟩ := r.get (i := i) (x := .int (ns.getD i 0)) (by rw [List.getElem?_map, getDI_at hn]; rfl)
  rw [e'] at eu
  cases eu
  exact ⟨hn, ru⟩
def rMaxA (K : PySem.W.Frag) : List V → Hp → VK → Prop := fun vs H Q => ∃ (a : Addr) (ns : List Int), vs = [V.ref a] ∧ SqA K H a (ns.map V.int) ∧ 0 < ns.length ∧ ∀ m, m ∈ ns → (∀ y, y ∈ ns → y ≤ m) → Q (.int m) H
theorem cr_maxA (hc : X.calm = true) : CallR X (.builtin "max") (rMaxA X.K) := by
  rintro pins s σ H vs us Q I r ⟨a, ns, rfl, hs | hs, pos, q⟩
  · exact cr_max hc pins s σ H _ us Q I r ⟨a, ns, rfl, hs, pos, q⟩
  rw [Vals.ref1 r]
  obtain ⟨its, rv, tl, _⟩ := I.tuple hs
  have lt : a < s.heap.objs.size := by
    obtain ⟨_, eo, _⟩ := tl
    exact Heap.lt_size eo
  have len := rv.length
  rw [List.length_map] at len
  have size : its.toArray.size = ns.length := by rw [List.size_toArray, len]
  have better := argBest_gt (fun i => ns.getD i 0) (its.toArray.size - 1)
  refine call_max_walk (wpAny_pyIter_tuple tl ⟨s.heap.objs.size, [s.heap.objs.size, a], [s.heap.objs.size], its.toArray.size, _, _, _, rfl, Walks.tuple (A := X.A.in1) (I.ok.hd hc) _ a (Nat.ne_of_lt lt) its.toArray,
    ⟨⟨_, Heap.get?_push_size _ rfl, rfl, rfl⟩, tl.push _⟩, fun b hb => ?_, by rw [size]; exact pos, CmpOf.ints_gt (fun i => ns.getD i 0) (fun _ _ e => (num_at rv e).2), fun v h' tk hv hk => ?_⟩)
  · have z : b = s.heap.objs.size ∨ b = a := by simpa using hb
    show b < (s.heap.push _).objs.size
    rw [Heap.size_push]
    exact z.elim (fun z => z ▸ Nat.lt_succ_self _) (fun z => z ▸ Nat.lt_succ_of_lt lt)
  · obtain ⟨hb, t, rfl⟩ := num_at rv hv
    refine ⟨.int _, H, I.kept fun b o e => hk b o (fun z => ?_) (Heap.get?_push_of_some _ e), ⟨t, rfl⟩, q _ (List.mem_of_getElem? (getDI_at hb)) fun y hy => ?_⟩
    · have old := Heap.lt_size e
      rw [List.mem_singleton.mp z] at old
      exact Nat.lt_irrefl _ old
    · obtain ⟨j, hj⟩ := List.mem_iff_getElem?.mp hy
      obtain ⟨hl, _⟩ := List.getElem?_eq_some_iff.mp hj
      have more : ns.getD j 0 ≤ _ := better.2 j (by omega)
      rw [getDI_at hl] at hj
      rw [← Option.some.inj hj]
      exact more
end
end Mte
/-! ### How many ways there are to be in groups -/
namespace Mte
open Ks565 (Folk)
theorem snoc_ind {α : Type} {p : List α → Prop} (h0 : p []) (h1 : ∀ l x, p l → p (l ++ [x])) (l : List α) : p l := by
  have aux : ∀ (r pre : List α), p pre → p (pre ++ r) := by
    intro r
    induction r with
    | nil =>
      intro pre h
      rw [List.append_nil]
      exact h
    | cons y r ih =>
      intro pre h
      rw [show pre ++ y :: r = (pre ++ [y]) ++ r from by rw [List.append_assoc]; rfl]
      exact ih _ (h1 pre y h)
  exact aux l [] h0
theorem top_number (g : List Nat) : g ≠ [] → ∃ y ∈ tidyUp g, y + 1 = (firsts g).length := by
  refine snoc_ind (p := fun g => g ≠ [] → ∃ y ∈ tidyUp g, y + 1 = (firsts g).length) (fun h => absurd rfl h) (fun l x ih _ => ?_) g
  by_cases c : x ∈ firsts l
  · rw [tidyUp_in c, firsts_in c]
    obtain ⟨y, hy, e⟩ := ih (fun z => by rw [z] at c; cases c)
    exact ⟨y, List.mem_append_left _ hy, e⟩
  · rw [tidyUp_new c, firsts_new c]
    exact ⟨(firsts l).length, List.mem_append_right _ (List.mem_singleton.mpr rfl), by rw [List.length_append]; rfl⟩
theorem mem_all (g : List Nat) : Ks565.tidy g ∈ Ks565.all g.length := by
  rw [tidy_up]
  refine snoc_ind (p := fun g => tidyUp g ∈ Ks565.all g.length) (List.mem_singleton.mpr rfl) (fun l x ih => ?_) g
  rw [List.length_append]
  show tidyUp (l ++ [x]) ∈ (Ks565.all l.length).flatMap fun g => (List.range ((g.map (· + 1)).foldl max 0 + 1)).map fun x => g ++ [x]
  rw [List.mem_flatMap]
  refine ⟨tidyUp l, ih, List.mem_map.mpr ?_⟩
  have big : (firsts l).length ≤ ((tidyUp l).map (· + 1)).foldl max 0 := by
    by_cases c : l = []
    · rw [c]
      exact Nat.zero_le _
    · obtain ⟨y, hy, e⟩ := top_number l c
      rw [← e]
      exact (le_foldl_max _ 0).2 _ (List.mem_map.mpr ⟨y, hy, rfl⟩)
  by_cases c : x ∈ firsts l
  · exact ⟨_, List.mem_range.mpr (Nat.lt_succ_of_le (Nat.le_trans (Nat.le_of_lt (idx_lt c)) big)), (tidyUp_in c).symm⟩
  · exact ⟨_, List.mem_range.mpr (Nat.lt_succ_of_le big), (tidyUp_new c).symm⟩
theorem len_le_of_sub {α : Type} [DecidableEq α] : ∀ (l m : List α), l.Nodup → (∀ x ∈ l, x ∈ m) → l.length ≤ m.length
  | [], _, _, _ => Nat.zero_le _
  | x :: l, m, hn, hs => by
    rw [List.nodup_cons] at hn
    have hx : x ∈ m := hs x (List.mem_cons_self ..)
    have ih := len_le_of_sub l (m.erase x) hn.2 fun y hy => by
      have ne : y ≠ x := fun z => hn.1 (z ▸ hy)
      exact (List.mem_erase_of_ne ne).mpr (hs y (List.mem_cons_of_mem _ hy))
    rw [List.length_erase_of_mem hx] at ih
    have pos : 0 < m.length := List.length_pos_of_mem hx
    rw [List.length_cons]
    omega
theorem all_len {n : Nat} (h : n ≤ 5) : (Ks565.all n).length ≤ 52 := by
  have e : n = 0 ∨ n = 1 ∨ n = 2 ∨ n = 3 ∨ n = 4 ∨ n = 5 := by omega
  rcases e with rfl | rfl | rfl | rfl | rfl | rfl <;> decide +kernel
/-- groups as they are numbered, of n people -/
def Tid (n : Nat) (x : List Nat) : Prop := ∃ g : List Nat, g.length = n ∧ x = Ks565.tidy g
theorem Tid.len {n : Nat} {x : List Nat} (h : Tid n x) : x.length = n := by
  obtain ⟨g, hg, rfl⟩ := h
  rw [tidy_length, hg]
theorem Tid.lt {n : Nat} {x : List Nat} (h : Tid n x) : ∀ y ∈ x, y < n := by
  obtain ⟨g, hg, rfl⟩ := h
  exact fun y hy => hg ▸ tidy_lt hy
theorem Tid.go {n : Nat} {x : List Nat} (h : Tid n x) (i k : Nat) : Tid n (Ks565.go x i k) := ⟨x.set i k, by rw [List.length_set]; exact h.len, rfl⟩
theorem few {n : Nat} (h : n ≤ 5) {l : List (List Nat)} (hn : l.Nodup) (ht : ∀ x ∈ l, Tid n x) : l.length ≤ 52 :=
  Nat.le_trans (len_le_of_sub l (Ks565.all n) hn fun x hx => by
    obtain ⟨g, hg, e⟩ := ht x hx
    rw [e, ← hg]
    exact mem_all g) (all_len h)
end Mte
/-! ### What may be come to -/
namespace Mte
open Ks565 (Folk)
theorem nodup_dups {α : Type} [BEq α] [LawfulBEq α] : ∀ (m : Nat) (l : List α), l.length ≤ m → l.eraseDups.Nodup
  | _, [], _ => by
    rw [List.eraseDups_nil]
    exact List.nodup_nil
  | 0, a :: l, h => by
    rw [List.length_cons] at h
    omega
  | m + 1, a :: l, h => by
    rw [List.eraseDups_cons, List.nodup_cons]
    refine ⟨fun z => ?_, nodup_dups m _ ?_⟩
    · rw [List.mem_eraseDups, List.mem_filter] at z
      have y := z.2
      simp at y
    · rw [List.length_cons] at h
      exact Nat.le_trans (List.length_filter_le _ _) (by omega)
theorem nodup_eraseDups {α : Type} [BEq α] [LawfulBEq α] (l : List α) : l.eraseDups.Nodup := nodup_dups l.length l (Nat.le_refl _)
/-- two lists without doubles, one within the other, as long: the same things -/
theorem sub_of_len {α : Type} [DecidableEq α] : ∀ (l m : List α), l.Nodup → m.Nodup → (∀ x ∈ l, x ∈ m) → m.length ≤ l.length → ∀ x ∈ m, x ∈ l := by
  intro l m hl hm hs hlen x hx
  refine Classical.byContradiction fun c => ?_
  have h := len_le_of_sub (x :: l) m (List.nodup_cons.mpr ⟨c, hl⟩) fun y hy => by
    rcases List.mem_cons.mp hy with z | z
    · rw [z]
      exact hx
    · exact hs y z
  rw [List.length_cons] at h
  omega
/-- some moves, one behind another -/
inductive Come (t : Folk) (w : Nat) : List Nat → List Nat → Prop
  | here (g : List Nat) : Come t w g g
  | move {g h x : List Nat} : Come t w g h → x ∈ Ks567.next t w h → Come t w g x
theorem Come.trans {t : Folk} {w : Nat} {g h x : List Nat} (a : Come t w g h) (b : Come t w h x) : Come t w g x := by
  induction b with
  | here => exact a
  | move _ m ih => exact .move ih m
theorem Come.one {t : Folk} {w : Nat} {g h : List Nat} (m : h ∈ Ks567.next t w g) : Come t w g h := .move (.here g) m
/-- the first move of some -/
theorem Come.first {t : Folk} {w : Nat} {g x : List Nat} (a : Come t w g x) : x = g ∨ ∃ h ∈ Ks567.next t w g, Come t w h x := by
  induction a with
  | here => exact .inl rfl
  | move b m ih =>
    rcases ih with e | ⟨h, hh, c⟩
    · exact .inr ⟨_, e ▸ m, .here _⟩
    · exact .inr ⟨h, hh, .move c m⟩
theorem next_tid {t : Folk} {w : Nat} {g x : List Nat} (h : Tid t.n g) (m : x ∈ Ks567.next t w g) : Tid t.n x := by
  unfold Ks567.next at m
  obtain ⟨p, _, rfl⟩ := List.mem_map.mp m
  exact h.go p.1 p.2
theorem Come.tid {t : Folk} {w : Nat} {g x : List Nat} (a : Come t w g x) (h : Tid t.n g) : Tid t.n x := by
  induction a with
  | here => exact h
  | move _ m ih => exact next_tid ih m
/-- what is closed under moves holds all that may be come to -/
theorem Come.closed {t : Folk} {w : Nat} {l : List (List Nat)} (hc : ∀ x ∈ l, ∀ y ∈ Ks567.next t w x, y ∈ l) {g x : List Nat} (a : Come t w g x) (hg : g ∈ l) : x ∈ l := by
  induction a with
  | here => exact hg
  | move _ m ih => exact hc _ ih _ m
structure Reached (t : Folk) (w : Nat) (l r : List (List Nat)) : Prop where
  nd : r.Nodup
  all : ∀ x ∈ l, x ∈ r
  come : ∀ x ∈ r, ∃ y ∈ l, Come t w y x
  closed : ∀ x ∈ r, ∀ y ∈ Ks567.next t w x, y ∈ r
theorem reach_spec {t : Folk} {w : Nat} (h5 : t.n ≤ 5) : ∀ (f : Nat) (l : List (List Nat)), l.Nodup → (∀ x ∈ l, Tid t.n x) → 52 < l.length + f → Reached t w l (Ks567.reach t w f l)
  | 0, l, hn, ht, hf => by
    have := few h5 hn ht
    omega
  | f + 1, l, hn, ht, hf => by
    show Reached t w l (if (l ++ l.flatMap (Ks567.next t w)).eraseDups.length = l.length then l else Ks567.reach t w f (l ++ l.flatMap (Ks567.next t w)).eraseDups)
    have sub : ∀ x ∈ l, x ∈ (l ++ l.flatMap (Ks567.next t w)).eraseDups := fun x hx => List.mem_eraseDups.mpr (List.mem_append_left _ hx)
    have tid : ∀ x ∈ (l ++ l.flatMap (Ks567.next t w)).eraseDups, Tid t.n x := fun x hx => by
      rcases List.mem_append.mp (List.mem_eraseDups.mp hx) with z | z
      · exact ht x z
      · obtain ⟨y, hy, m⟩ := List.mem_flatMap.mp z
        exact next_tid (ht y hy) m
    by_cases c : (l ++ l.flatMap (Ks567.next t w)).eraseDups.length = l.length
    · rw [if_pos c]
      refine ⟨hn, fun _ h => h, fun x hx => ⟨x, hx, .here x⟩, fun x hx y hy => ?_⟩
      exact sub_of_len l _ hn (nodup_eraseDups _) sub (Nat.le_of_eq c) y (List.mem_eraseDups.mpr (List.mem_append_right _ (List.mem_flatMap.mpr ⟨x, hx, hy⟩)))
    · rw [if_neg c]
      have more := len_le_of_sub l _ hn sub
      have ih := reach_spec (w := w) h5 f _ (nodup_eraseDups (l ++ l.flatMap (Ks567.next t w))) tid (by omega)
      refine ⟨ih.nd, fun x hx => ih.all x (sub x hx), fun x hx => ?_, ih.closed⟩
      obtain ⟨y, hy, cm⟩ := ih.come x hx
      rcases List.mem_append.mp (List.mem_eraseDups.mp hy) with z | z
      · exact ⟨y, z, cm⟩
      · obtain ⟨u, hu, m⟩ := List.mem_flatMap.mp z
        exact ⟨u, hu, (Come.one m).trans cm⟩
theorem all_spec {t : Folk} {w : Nat} {g : List Nat} (h5 : t.n ≤ 5) (h : Tid t.n g) : Reached t w [g] (Ks567.all t w g) :=
  reach_spec h5 60 [g] (List.nodup_cons.mpr ⟨fun z => (by cases z), List.nodup_nil⟩) (fun x hx => by rw [List.mem_singleton.mp hx]; exact h) (by show 52 < 1 + 60; decide)
theorem mem_all_iff {t : Folk} {w : Nat} {g x : List Nat} (h5 : t.n ≤ 5) (h : Tid t.n g) : x ∈ Ks567.all t w g ↔ Come t w g x := by
  have R := all_spec (w := w) h5 h
  constructor
  · intro hx
    obtain ⟨y, hy, c⟩ := R.come x hx
    rw [List.mem_singleton.mp hy] at c
    exact c
  · intro c
    exact c.closed R.closed (R.all g (List.mem_singleton.mpr rfl))
/-- any list without doubles that holds just what may be come to is as long -/
theorem all_length {t : Folk} {w : Nat} {g : List Nat} {l : List (List Nat)} (h5 : t.n ≤ 5) (h : Tid t.n g) (hn : l.Nodup) (hl : ∀ x, x ∈ l ↔ Come t w g x) : (Ks567.all t w g).length = l.length := by
  have R := all_spec (w := w) h5 h
  refine Nat.le_antisymm (len_le_of_sub _ _ R.nd fun x hx => (hl x).mpr ((mem_all_iff h5 h).mp hx)) (len_le_of_sub _ _ hn fun x hx => (mem_all_iff h5 h).mpr ((hl x).mp hx))
theorem ends_iff {t : Folk} {w : Nat} {g : List Nat} (h5 : t.n ≤ 5) (h : Tid t.n g) : Ks567.ends t w g = true ↔ ∃ x, Come t w g x ∧ Ks565.rests t w x = true := by
  unfold Ks567.ends
  rw [List.any_eq_true]
  constructor
  · rintro ⟨x, hx, e⟩
    exact ⟨x, (mem_all_iff h5 h).mp hx, e⟩
  · rintro ⟨x, hx, e⟩
    exact ⟨x, (mem_all_iff h5 h).mpr hx, e⟩
theorem round_iff {t : Folk} {w : Nat} {g : List Nat} (h5 : t.n ≤ 5) (h : Tid t.n g) : Ks567.round t w g = true ↔ ∃ x, Come t w g x ∧ ∃ y ∈ Ks567.next t w x, Come t w y x := by
  unfold Ks567.round
  rw [List.any_eq_true]
  constructor
  · rintro ⟨x, hx, e⟩
    obtain ⟨y, hy, e⟩ := List.any_eq_true.mp e
    have cx := (mem_all_iff h5 h).mp hx
    exact ⟨x, cx, y, hy, (mem_all_iff h5 (next_tid (cx.tid h) hy)).mp (List.contains_iff_mem.mp e)⟩
  · rintro ⟨x, cx, y, hy, e⟩
    exact ⟨x, (mem_all_iff h5 h).mpr cx, List.any_eq_true.mpr ⟨y, hy, List.contains_iff_mem.mpr ((mem_all_iff h5 (next_tid (cx.tid h) hy)).mpr e)⟩⟩
theorem next_mem {t : Folk} {w : Nat} {g x : List Nat} : x ∈ Ks567.next t w g ↔ ∃ i k, i < t.n ∧ k ≤ Ks565.groups g ∧ Ks565.may t w g i k = true ∧ x = Ks565.go g i k := by
  unfold Ks567.next Ks565.moves
  rw [List.mem_map]
  constructor
  · rintro ⟨p, hp, rfl⟩
    obtain ⟨i, hi, hp⟩ := List.mem_flatMap.mp hp
    obtain ⟨k, hk, rfl⟩ := List.mem_map.mp hp
    obtain ⟨h1, h2⟩ := List.mem_filter.mp hk
    exact ⟨i, k, List.mem_range.mp hi, Nat.le_of_lt_succ (List.mem_range.mp h1), h2, rfl⟩
  · rintro ⟨i, k, hi, hk, m, rfl⟩
    exact ⟨(i, k), List.mem_flatMap.mpr ⟨i, List.mem_range.mpr hi, List.mem_map.mpr ⟨k, List.mem_filter.mpr ⟨List.mem_range.mpr (Nat.lt_succ_of_le hk), m⟩, rfl⟩⟩, rfl⟩
theorem rests_iff {t : Folk} {w : Nat} {g : List Nat} : Ks565.rests t w g = true ↔ Ks567.next t w g = [] := by
  unfold Ks565.rests Ks567.next
  rw [List.isEmpty_iff, List.map_eq_nil_iff]
theorem rests_first {t : Folk} {w : Nat} {g : List Nat} : Ks565.rests t w g = true ↔ firstMove t w g = none := by
  have e := step_is t w g
  unfold Ks565.rests
  rw [List.isEmpty_iff]
  constructor
  · intro z
    rw [stepOf_eq, z] at e
    cases c : firstMove t w g with
    | none => rfl
    | some p =>
      rw [c] at e
      cases e
  · intro z
    rw [z, stepOf_eq] at e
    cases c : Ks565.moves t w g with
    | nil => rfl
    | cons p l =>
      rw [c] at e
      cases e
/-- where nothing goes round, taking away what leads nowhere empties all; what can't be taken away goes round: a list closed from below -/
theorem round_of_stuck {t : Folk} {w : Nat} {l : List (List Nat)} {g : List Nat} (h5 : t.n ≤ 5) (ht : ∀ x ∈ l, Tid t.n x) (hc : ∀ x ∈ l, Come t w g x) (hne : l ≠ []) (hs : ∀ x ∈ l, ∃ y ∈ Ks567.next t w x, y ∈ l) : ∃ x, Come t w g x ∧ ∃ y ∈ Ks567.next t w x, Come t w y x := by
  -- a way of any length within l
  have way : ∀ (m : Nat) (x : List Nat), x ∈ l → (∃ y, y ∈ l ∧ ∃ z ∈ Ks567.next t w y, Come t w z y) ∨ ∃ p : List (List Nat), p.length = m ∧ p.Nodup ∧ (∀ y ∈ p, y ∈ l) ∧ ∃ e ∈ l, (∀ y ∈ p, ∃ z ∈ Ks567.next t w y, Come t w z e) := by
    intro m
    induction m with
    | zero =>
      intro x hx
      exact .inr ⟨[], rfl, List.nodup_nil, fun y hy => (by cases hy), x, hx, fun y hy => (by cases hy)⟩
    | succ m ih =>
      intro x hx
      rcases ih x hx with a | ⟨p, pl, pn, pin, e, he, pc⟩
      · exact .inl a
      · by_cases c : e ∈ p
        · exact .inl ⟨e, he, pc e c⟩
        · obtain ⟨y, hy, yl⟩ := hs e he
          refine .inr ⟨e :: p, by rw [List.length_cons, pl], List.nodup_cons.mpr ⟨c, pn⟩, fun u hu => ?_, y, yl, fun u hu => ?_⟩
          · rcases List.mem_cons.mp hu with z | z
            · rw [z]
              exact he
            · exact pin u z
          · rcases List.mem_cons.mp hu with z | z
            · rw [z]
              exact ⟨y, hy, .here y⟩
            · obtain ⟨v, hv, cv⟩ := pc u z
              exact ⟨v, hv, .move cv hy⟩
  obtain ⟨x, hx⟩ := List.exists_mem_of_ne_nil l hne
  rcases way 53 x hx with ⟨y, hy, z⟩ | ⟨p, pl, pn, pin, _⟩
  · exact ⟨y, hc y hy, z⟩
  · have := few h5 pn fun y hy => ht y (pin y hy)
    omega
end Mte
/-! ### All that may be come to, as the program goes through it -/
namespace Mte
open Ks565 (Folk)
theorem ks_len (t : Folk) (w : Nat) (g : List Nat) (i : Nat) : (ks t w g i).length ≤ Ks565.groups g + 1 := by
  unfold ks
  exact Nat.le_trans (List.length_filter_le _ _) (by rw [List.length_range]; exact Nat.le_refl _)
theorem groups_le {g : List Nat} {m : Nat} (h : ∀ x ∈ g, x < m) (hm : 1 ≤ m) : Ks565.groups g ≤ m := by
  unfold Ks565.groups
  have := foldl_max_le g 0 (m - 1) (Nat.zero_le _) fun x hx => Nat.le_sub_one_of_lt (h x hx)
  omega
/-- what comes of the moves of the first j people -/
def nextUp (t : Folk) (w : Nat) (g : List Nat) (j : Nat) : List (List Nat) := (List.range j).flatMap fun i => (ks t w g i).map (Ks565.go g i)
theorem nextUp_zero (t : Folk) (w : Nat) (g : List Nat) : nextUp t w g 0 = [] := rfl
theorem nextUp_more (t : Folk) (w : Nat) (g : List Nat) (j : Nat) : nextUp t w g (j + 1) = nextUp t w g j ++ (ks t w g j).map (Ks565.go g j) := by
  unfold nextUp
  rw [List.range_succ, List.flatMap_append]
  simp
theorem map_flat {α β γ : Type} (f : β → γ) (h : α → List β) : ∀ l : List α, (l.flatMap h).map f = l.flatMap fun x => (h x).map f
  | [] => rfl
  | x :: l => by
    rw [List.flatMap_cons, List.flatMap_cons, List.map_append, map_flat f h l]
theorem nextUp_all (t : Folk) (w : Nat) (g : List Nat) : nextUp t w g t.n = Ks567.next t w g := by
  unfold nextUp Ks567.next Ks565.moves
  rw [map_flat]
  refine congrArg (fun h => (List.range t.n).flatMap h) (funext fun i => ?_)
  rw [List.map_map]
  rfl
theorem nextUp_len (t : Folk) (w : Nat) {g : List Nat} {m : Nat} (h : ∀ x ∈ g, x < m) (hm : 1 ≤ m) : ∀ j, (nextUp t w g j).length ≤ j * (m + 1)
  | 0 => by
    rw [nextUp_zero]
    exact Nat.zero_le _
  | j + 1 => by
    rw [nextUp_more, List.length_append, List.length_map, Nat.add_mul, Nat.one_mul]
    exact Nat.add_le_add (nextUp_len t w h hm j) (Nat.le_trans (ks_len t w g j) (Nat.add_le_add_right (groups_le h hm) 1))
theorem next_len {t : Folk} {w : Nat} {g : List Nat} (h1 : 1 ≤ t.n) (h5 : t.n ≤ 5) (h : ∀ x ∈ g, x < t.n) : (Ks567.next t w g).length ≤ 30 := by
  rw [← nextUp_all]
  refine Nat.le_trans (nextUp_len t w h h1 t.n) ?_
  have e : t.n = 1 ∨ t.n = 2 ∨ t.n = 3 ∨ t.n = 4 ∨ t.n = 5 := by omega
  rcases e with e | e | e | e | e <;> rw [e] <;> decide
/-- between two turns: dn has been gone through, wt waits -/
structure WI (t : Folk) (w : Nat) (g : List Nat) (dn wt : List (List Nat)) : Prop where
  nd : dn.Nodup
  cd : ∀ x ∈ dn, Come t w g x
  cw : ∀ x ∈ wt, Come t w g x
  st : g ∈ dn ∨ g ∈ wt
  on : ∀ x ∈ dn, ∀ y ∈ Ks567.next t w x, y ∈ dn ∨ y ∈ wt
  sz : (52 - dn.length) * 40 + wt.length ≤ 2081
theorem WI.start (t : Folk) (w : Nat) (g : List Nat) : WI t w g [] [g] :=
  ⟨List.nodup_nil, fun x hx => (by cases hx), fun x hx => (by rw [List.mem_singleton.mp hx]; exact .here g), .inr (List.mem_singleton.mpr rfl), fun x hx => (by cases hx), (by show 52 * 40 + 1 ≤ 2081; decide)⟩
theorem WI.few {t : Folk} {w : Nat} {g : List Nat} {dn wt : List (List Nat)} (W : WI t w g dn wt) (h5 : t.n ≤ 5) (hg : Tid t.n g) {x : List Nat} (hx : Come t w g x) (c : ¬ x ∈ dn) : dn.length < 52 := by
  have h := Mte.few (l := x :: dn) h5 (List.nodup_cons.mpr ⟨c, W.nd⟩) fun y hy => by
    rcases List.mem_cons.mp hy with z | z
    · rw [z]
      exact hx.tid hg
    · exact (W.cd y z).tid hg
  rw [List.length_cons] at h
  omega
theorem WI.old {t : Folk} {w : Nat} {g : List Nat} {dn wt : List (List Nat)} {x : List Nat} (W : WI t w g dn (wt ++ [x])) (c : x ∈ dn) : WI t w g dn wt := by
  have sz := W.sz
  rw [List.length_append] at sz
  refine ⟨W.nd, W.cd, fun y hy => W.cw y (List.mem_append_left _ hy), ?_, fun y hy z hz => ?_, by omega⟩
  · rcases W.st with z | z
    · exact .inl z
    · rcases List.mem_append.mp z with y | y
      · exact .inr y
      · rw [List.mem_singleton.mp y]
        exact .inl c
  · rcases W.on y hy z hz with a | a
    · exact .inl a
    · rcases List.mem_append.mp a with b | b
      · exact .inr b
      · rw [List.mem_singleton.mp b]
        exact .inl c
theorem WI.new {t : Folk} {w : Nat} {g : List Nat} {dn wt : List (List Nat)} {x : List Nat} (W : WI t w g dn (wt ++ [x])) (h1 : 1 ≤ t.n) (h5 : t.n ≤ 5) (hg : Tid t.n g) (c : ¬ x ∈ dn) : WI t w g (dn ++ [x]) (wt ++ Ks567.next t w x) := by
  have cx := W.cw x (List.mem_append_right _ (List.mem_singleton.mpr rfl))
  have f := W.few h5 hg cx c
  have sz := W.sz
  have nl := next_len (w := w) h1 h5 (cx.tid hg).lt
  rw [List.length_append] at sz
  refine ⟨?_, fun y hy => ?_, fun y hy => ?_, ?_, fun y hy z hz => ?_, ?_⟩
  · rw [List.nodup_append]
    refine ⟨W.nd, (List.nodup_cons.mpr ⟨fun z => (by cases z), List.nodup_nil⟩), fun a ha b hb z => ?_⟩
    rw [List.mem_singleton.mp hb] at z
    exact c (z ▸ ha)
  · rcases List.mem_append.mp hy with z | z
    · exact W.cd y z
    · rw [List.mem_singleton.mp z]
      exact cx
  · rcases List.mem_append.mp hy with z | z
    · exact W.cw y (List.mem_append_left _ z)
    · exact .move cx z
  · rcases W.st with z | z
    · exact .inl (List.mem_append_left _ z)
    · rcases List.mem_append.mp z with y | y
      · exact .inr (List.mem_append_left _ y)
      · exact .inl (List.mem_append_right _ y)
  · rcases List.mem_append.mp hy with a | a
    · rcases W.on y a z hz with b | b
      · exact .inl (List.mem_append_left _ b)
      · rcases List.mem_append.mp b with e | e
        · exact .inr (List.mem_append_left _ e)
        · exact .inl (List.mem_append_right _ e)
    · rw [List.mem_singleton.mp a] at hz
      exact .inr (List.mem_append_right _ hz)
  · rw [List.length_append, List.length_append]
    show (52 - (dn.length + 1)) * 40 + (wt.length + (Ks567.next t w x).length) ≤ 2081
    have e : (52 - dn.length) * 40 = (52 - (dn.length + 1)) * 40 + 40 := by omega
    omega
theorem WI.less {t : Folk} {w : Nat} {g : List Nat} {dn wt : List (List Nat)} {x : List Nat} (W : WI t w g dn (wt ++ [x])) (h1 : 1 ≤ t.n) (h5 : t.n ≤ 5) (hg : Tid t.n g) (c : ¬ x ∈ dn) :
    (52 - (dn ++ [x]).length) * 40 + (wt ++ Ks567.next t w x).length < (52 - dn.length) * 40 + (wt ++ [x]).length := by
  have cx := W.cw x (List.mem_append_right _ (List.mem_singleton.mpr rfl))
  have f := W.few h5 hg cx c
  have nl := next_len (w := w) h1 h5 (cx.tid hg).lt
  rw [List.length_append, List.length_append, List.length_append]
  show (52 - (dn.length + 1)) * 40 + (wt.length + (Ks567.next t w x).length) < (52 - dn.length) * 40 + (wt.length + 1)
  omega
theorem WI.done {t : Folk} {w : Nat} {g : List Nat} {dn : List (List Nat)} (W : WI t w g dn []) : ∀ x, x ∈ dn ↔ Come t w g x := by
  intro x
  constructor
  · exact W.cd x
  · intro c
    refine c.closed (fun y hy z hz => ?_) ?_
    · rcases W.on y hy z hz with a | a
      · exact a
      · cases a
    · rcases W.st with a | a
      · exact a
      · cases a
/-! what leads on -/
abbrev Gr := List (List Nat × List (List Nat))
def keysOf (G : Gr) : List (List Nat) := G.map (·.1)
def kept (ks : List (List Nat)) (xs : List (List Nat)) : List (List Nat) := xs.filter fun y => decide (y ∈ ks)
def leadOne (ks : List (List Nat)) (p : List Nat × List (List Nat)) : Option (List Nat × List (List Nat)) := if 0 < (kept ks p.2).length then some (p.1, kept ks p.2) else none
def leadOn (G : Gr) : Gr := G.filterMap (leadOne (keysOf G))
theorem lead_yes {ks : List (List Nat)} {p : List Nat × List (List Nat)} (h : 0 < (kept ks p.2).length) (G : Gr) : (G ++ [p]).filterMap (leadOne ks) = G.filterMap (leadOne ks) ++ [(p.1, kept ks p.2)] := by
  rw [List.filterMap_append]
  have e : leadOne ks p = some (p.1, kept ks p.2) := if_pos h
  simp [e]
theorem lead_no {ks : List (List Nat)} {p : List Nat × List (List Nat)} (h : ¬ 0 < (kept ks p.2).length) (G : Gr) : (G ++ [p]).filterMap (leadOne ks) = G.filterMap (leadOne ks) := by
  rw [List.filterMap_append]
  have e : leadOne ks p = none := if_neg h
  simp [e]
theorem kept_snoc_in {ks xs : List (List Nat)} {y : List Nat} (h : y ∈ ks) : kept ks (xs ++ [y]) = kept ks xs ++ [y] := by
  unfold kept
  rw [List.filter_append, List.filter_cons, if_pos (decide_eq_true h)]
  rfl
theorem kept_snoc_out {ks xs : List (List Nat)} {y : List Nat} (h : ¬ y ∈ ks) : kept ks (xs ++ [y]) = kept ks xs := by
  unfold kept
  rw [List.filter_append, List.filter_cons, if_neg (by simpa using h)]
  simp
theorem fm_keys (ks : List (List Nat)) : ∀ G : Gr, (∀ x ∈ keysOf (G.filterMap (leadOne ks)), x ∈ keysOf G) ∧ ((keysOf G).Nodup → (keysOf (G.filterMap (leadOne ks))).Nodup) ∧ (G.filterMap (leadOne ks)).length ≤ G.length ∧
    ((G.filterMap (leadOne ks)).length = G.length → ∀ p ∈ G, 0 < (kept ks p.2).length)
  | [] => ⟨fun x hx => hx, fun h => h, Nat.le_refl _, fun _ p hp => (by cases hp)⟩
  | p :: G => by
    obtain ⟨h1, h2, h3, h4⟩ := fm_keys ks G
    by_cases c : 0 < (kept ks p.2).length
    · have e : (p :: G).filterMap (leadOne ks) = (p.1, kept ks p.2) :: G.filterMap (leadOne ks) := by
        have z : leadOne ks p = some (p.1, kept ks p.2) := if_pos c
        simp [z]
      rw [e]
      refine ⟨fun x hx => ?_, fun hn => ?_, ?_, fun hl q hq => ?_⟩
      · rcases List.mem_cons.mp hx with z | z
        · rw [z]
          exact List.mem_cons_self ..
        · exact List.mem_cons_of_mem _ (h1 x z)
      · have hn' : (p.1 :: keysOf G).Nodup := hn
        rw [List.nodup_cons] at hn'
        exact List.nodup_cons.mpr ⟨fun z => hn'.1 (h1 _ z), h2 hn'.2⟩
      · rw [List.length_cons, List.length_cons]
        omega
      · rw [List.length_cons, List.length_cons] at hl
        rcases List.mem_cons.mp hq with z | z
        · rw [z]
          exact c
        · exact h4 (by omega) q z
    · have e : (p :: G).filterMap (leadOne ks) = G.filterMap (leadOne ks) := by
        have z : leadOne ks p = none := if_neg c
        simp [z]
      rw [e]
      refine ⟨fun x hx => List.mem_cons_of_mem _ (h1 x hx), fun hn => ?_, ?_, fun hl => ?_⟩
      · have hn' : (p.1 :: keysOf G).Nodup := hn
        rw [List.nodup_cons] at hn'
        exact h2 hn'.2
      · rw [List.length_cons]
        omega
      · rw [List.length_cons] at hl
        omega
theorem lead_mem {G : Gr} {p : List Nat × List (List Nat)} : p ∈ leadOn G ↔ ∃ q ∈ G, 0 < (kept (keysOf G) q.2).length ∧ p = (q.1, kept (keysOf G) q.2) := by
  unfold leadOn
  rw [List.mem_filterMap]
  constructor
  · rintro ⟨q, hq, e⟩
    unfold leadOne at e
    by_cases c : 0 < (kept (keysOf G) q.2).length
    · rw [if_pos c] at e
      exact ⟨q, hq, c, (Option.some.inj e).symm⟩
    · rw [if_neg c] at e
      cases e
  · rintro ⟨q, hq, c, rfl⟩
    exact ⟨q, hq, if_pos c⟩
/-- what is left: moves of what may be come to, and of those each that may go round -/
structure LG (t : Folk) (w : Nat) (g : List Nat) (G : Gr) : Prop where
  come : ∀ p ∈ G, Come t w g p.1 ∧ ∀ y ∈ p.2, y ∈ Ks567.next t w p.1
  cyc : ∀ x, Come t w g x → ∀ y ∈ Ks567.next t w x, Come t w y x → ∃ p ∈ G, p.1 = x ∧ y ∈ p.2
theorem LG.start {t : Folk} {w : Nat} {g : List Nat} {dn : List (List Nat)} (h : ∀ x, x ∈ dn ↔ Come t w g x) : LG t w g (dn.map fun x => (x, Ks567.next t w x)) := by
  refine ⟨fun p hp => ?_, fun x cx y hy _ => ?_⟩
  · obtain ⟨x, hx, rfl⟩ := List.mem_map.mp hp
    exact ⟨(h x).mp hx, fun y hy => hy⟩
  · exact ⟨(x, Ks567.next t w x), List.mem_map.mpr ⟨x, (h x).mpr cx, rfl⟩, rfl, hy⟩
theorem LG.more {t : Folk} {w : Nat} {g : List Nat} {G : Gr} (L : LG t w g G) : LG t w g (leadOn G) := by
  refine ⟨fun p hp => ?_, fun x cx y hy cy => ?_⟩
  · obtain ⟨q, hq, _, rfl⟩ := lead_mem.mp hp
    obtain ⟨a, b⟩ := L.come q hq
    exact ⟨a, fun y hy => b y (List.mem_filter.mp hy).1⟩
  · obtain ⟨q, hq, rfl, yq⟩ := L.cyc x cx y hy cy
    -- y leads on, round to itself
    have yk : y ∈ keysOf G := by
      have cgy : Come t w g y := .move cx hy
      rcases cy.first with e | ⟨h, hh, ch⟩
      · obtain ⟨p, hp, e', _⟩ := L.cyc y cgy y (by rw [e] at hy; exact hy) (.here y)
        exact List.mem_map.mpr ⟨p, hp, e'⟩
      · obtain ⟨p, hp, e', _⟩ := L.cyc y cgy h hh (.move ch hy)
        exact List.mem_map.mpr ⟨p, hp, e'⟩
    have km : y ∈ kept (keysOf G) q.2 := List.mem_filter.mpr ⟨yq, decide_eq_true yk⟩
    exact ⟨(q.1, kept (keysOf G) q.2), lead_mem.mpr ⟨q, hq, List.length_pos_of_mem km, rfl⟩, rfl, km⟩
theorem LG.round {t : Folk} {w : Nat} {g : List Nat} {G : Gr} (L : LG t w g G) (h5 : t.n ≤ 5) (hg : Tid t.n g) (hl : ¬ (leadOn G).length < G.length) : Ks567.round t w g = decide (0 < G.length) := by
  obtain ⟨_, _, h3, h4⟩ := fm_keys (keysOf G) G
  have hl' : (leadOn G).length = G.length := Nat.le_antisymm h3 (Nat.le_of_not_lt hl)
  have stay := h4 hl'
  by_cases c : G = []
  · subst c
    have e : ¬ Ks567.round t w g = true := fun z => by
      obtain ⟨x, cx, y, hy, cy⟩ := (round_iff h5 hg).mp z
      obtain ⟨p, hp, _⟩ := L.cyc x cx y hy cy
      cases hp
    rw [Bool.not_eq_true] at e
    rw [e]
    rfl
  · have pos : 0 < G.length := List.length_pos_iff.mpr c
    rw [decide_eq_true pos]
    refine (round_iff h5 hg).mpr (round_of_stuck (l := keysOf G) h5 (fun x hx => ?_) (fun x hx => ?_) (fun z => c (List.map_eq_nil_iff.mp z)) fun x hx => ?_)
    · obtain ⟨p, hp, rfl⟩ := List.mem_map.mp hx
      exact (L.come p hp).1.tid hg
    · obtain ⟨p, hp, rfl⟩ := List.mem_map.mp hx
      exact (L.come p hp).1
    · obtain ⟨p, hp, rfl⟩ := List.mem_map.mp hx
      have ps := stay p hp
      obtain ⟨y, hy⟩ := List.exists_mem_of_length_pos ps
      obtain ⟨a, b⟩ := List.mem_filter.mp hy
      exact ⟨y, (L.come p hp).2 y a, of_decide_eq_true b⟩
/-- whether one is at rest -/
def restsIn (G : Gr) : Bool := (G.map fun p => decide (p.2.length = 0)).any id
theorem rests_in {t : Folk} {w : Nat} {g : List Nat} {dn : List (List Nat)} (h5 : t.n ≤ 5) (hg : Tid t.n g) (h : ∀ x, x ∈ dn ↔ Come t w g x) : restsIn (dn.map fun x => (x, Ks567.next t w x)) = Ks567.ends t w g := by
  have e : restsIn (dn.map fun x => (x, Ks567.next t w x)) = true ↔ Ks567.ends t w g = true := by
    rw [ends_iff h5 hg]
    unfold restsIn
    rw [List.any_eq_true]
    constructor
    · rintro ⟨b, hb, eb⟩
      obtain ⟨p, hp, rfl⟩ := List.mem_map.mp hb
      obtain ⟨x, hx, rfl⟩ := List.mem_map.mp hp
      have z : (Ks567.next t w x).length = 0 := of_decide_eq_true eb
      exact ⟨x, (h x).mp hx, rests_iff.mpr (List.length_eq_zero_iff.mp z)⟩
    · rintro ⟨x, cx, r⟩
      refine ⟨_, List.mem_map.mpr ⟨_, List.mem_map.mpr ⟨x, (h x).mpr cx, rfl⟩, rfl⟩, ?_⟩
      exact decide_eq_true (by show (Ks567.next t w x).length = 0; rw [rests_iff.mp r]; rfl)
  cases a : Ks567.ends t w g with
  | true => exact e.mpr a
  | false =>
    cases b : restsIn (dn.map fun x => (x, Ks567.next t w x)) with
    | false => rfl
    | true => rw [e.mp b] at a; cases a
end Mte
namespace Mte
open PySem PySem.Spec PyProof.Rows L2
open Ks565 (Folk)
/-! ### The text by places -/
def top (i : Nat) : Stmt := PySem.Challenge.pw_movesthatend_s06_all_of.main.body.getD i (.Pass ⟨0, 0, 0, 0⟩)
def optV : Option Nat → V
  | none => .non
  | some k => .int k
def okW (n : Nat) (v : List Int) : Prop := 1 ≤ n ∧ n ≤ 5 ∧ v.length = n * n ∧ ∀ x ∈ v, -20 ≤ x ∧ x ≤ 20
def okG (n : Nat) (g : List Nat) : Prop := g.length = n ∧ ∀ x ∈ g, x < n
structure TxtW (mg : Str → Option Value) : Prop where
  range : mg "range" = none
  len : mg "len" = none
  people : GI mg "MOST_PEOPLE" 5
  most : GI mg "MOST_WORTH" 20
  refused : GI mg "REFUSED" (-22)
structure Txt (mg : Str → Option Value) : Prop extends TxtW mg where
  max : mg "max" = none
  list : mg "list" = none
  wel : GI mg "WHERE_WELCOME" 1
  lgo : GI mg "WHERE_LET_GO" 2
  last : GI mg "LAST_WAY" 2
theorem nv_ints (g : List Nat) : nv g = (Ks565.ints g).map V.int := by
  unfold nv Ks565.ints
  rw [List.map_map]
  rfl
theorem nv_set (g : List Nat) (i k : Nat) : (nv g).set i (.int k) = nv (g.set i k) := by
  unfold nv
  rw [List.map_set]
theorem ixN_nat {n i : Nat} (h : i < n) : ixN n (i : Int) = some i := by
  unfold ixN
  rw [if_pos (by omega), if_pos (by omega)]
  rfl
theorem _root_.L2.Same.new {H : Hp} {p : Addr} {o : HO} (h : H p = none) : Same H (upd H p o) := fun b u e => by
  rw [upd_ne (ne_of_none e h)]
  exact e
theorem _root_.L2.Same.newer {H H' : Hp} {p : Addr} {o : HO} (s : Same H H') (h : H p = none) : Same H (upd H' p o) := fun b u e => by
  rw [upd_ne (ne_of_none e h)]
  exact s b u e
end Mte
namespace Mte
open PySem PySem.Spec PyProof.Rows L2
open Ks565 (Folk)
abbrev sHas : Stmt := top 11
def spHas (K : PySem.W.Frag) : Sp := fun vs H Q _ => ∃ (aw ag : Addr) (t : Folk) (g : List Nat) (i k : Nat), vs = [.int t.n, .ref aw, .ref ag, .int i, .int k] ∧ SqL K H aw (t.v.map V.int) ∧ SqA K H ag (nv g) ∧ Ok t g ∧ i < t.n ∧ Q (.int (hasW t g i k)) H
section
variable {P : Program} {w : World} {K : PySem.W.Frag} {mg : Str → Option Value} {base : Heap}
theorem scHas : FnScope ["n", "worth", "groups", "person", "number", "together", "other"] ["n", "worth", "groups", "person", "number"] (defScope sHas) := ⟨rfl, rfl, rfl, by decide +kernel, rfl, by decide +kernel, by decide +kernel⟩
theorem ok_has (D : Dfx K mg "has_with" sHas ["n", "worth", "groups", "person", "number"]) (T : TxtW mg) : Cal P w K mg base 1 "has_with" ["n", "worth", "groups", "person", "number"] (spHas K) := by
  refine D.ok scHas (fun vs H Q E h => ?_) (fun f cdv A outer s H vs Q E hr h => ?_)
  · obtain ⟨aw, ag, t, g, i, k, rfl, _⟩ := h
    rfl
  · obtain ⟨aw, ag, t, g, i, k, rfl, hW, hG, O, hi, q⟩ := h
    have n5 := O.n5
    refine ⟨_, pss_cons (ps_set (i := 5) scHas.nd rfl (Or.inl rfl) pe_int)
      (pss_cons (ps_for PassesOwn.never rfl (pi_range1 rfl T.range (pa_cons (pv 0) pa_nil)) (pg_name (i := 6) scHas.nd rfl (Or.inl rfl))
        (pss_one (ps_if (PW.pt (pw_and (pt_cmpR op_ne (pv 6) (pv 3) (nomark _)) (pw_and1 (pt_cmpR op_eq (pe_ix ix_any (pv 2) (pv 6) (fun _ _ => rfl)) (pv 4) (nomark _)))))
          (pss_one (ps_aug (i := 5) scHas.nd rfl (Or.inl rfl) (pe_ix ix_list (pv 1) (pe_op op_add (pe_op op_mul (pv 3) (pv 0)) (pv 6)) (fun _ _ => rfl)) ip_add)) pss_nil)))
      (pss_one (ps_ret (pv 5)))), ?_⟩
    refine ⟨_, rfl, (t.n : Int), rfl, by omega, by omega, for_range (lo := 0) (n := t.n) (fun j σ H' => H' = H ∧ ∃ o : Option V, σ = [some (.int t.n), some (.ref aw), some (.ref ag), some (.int i), some (.int k), some (.int (hasUp t g i k j)), o]) ⟨rfl, none, rfl⟩ ?_ ?_⟩
    · rintro j σ H' hj ⟨rfl, o, rfl⟩
      rw [Int.zero_add]
      refine ⟨_, rfl, _, rfl, rfl, _, rfl, ?_⟩
      by_cases c : j = i
      · refine if_nf (veq c) (iteF ⟨rfl, some (.int (j : Nat)), ?_⟩)
        have e : hasUp t g i k (j + 1) = hasUp t g i k j := by
          by_cases d : g.getD j 0 = k
          · rw [hasUp_in d, c, likes_self, Int.add_zero]
          · exact hasUp_out d
        rw [e]
        rfl
      · refine if_nt (vne c) ?_
        refine ⟨_, rfl, _, rfl, ag, _, _, _, rfl, rfl, hG, O.gat hj, _, rfl, rfl, _, rfl, ?_⟩
        by_cases d : g.getD j 0 = k
        · refine if_t (veq d) ?_
          refine ⟨_, rfl, _, rfl, _, rfl, _, rfl, _, _, rfl, rfl, mul_small (by omega), _, rfl, _, _, rfl, rfl, aw, _, _, _, rfl, rfl, hW, O.vat hi hj, _, _, rfl, rfl, rfl, some (.int (j : Nat)), ?_⟩
          rw [hasUp_in d, likes_ne (fun z => c z.symm)]
          rfl
        · refine if_f (vne d) ⟨rfl, some (.int (j : Nat)), ?_⟩
          rw [hasUp_out d]
          rfl
    · rintro σ H' ⟨rfl, o, rfl⟩
      refine ⟨_, rfl, ?_⟩
      rw [hasUp_all O.hg]
      exact q
end
end Mte
namespace Mte
open PySem PySem.Spec PyProof.Rows L2
open Ks565 (Folk)
abbrev sWel : Stmt := top 12
def spWel (K : PySem.W.Frag) : Sp := fun vs H Q _ => ∃ (aw ag : Addr) (t : Folk) (g : List Nat) (i k : Nat), vs = [.int t.n, .ref aw, .ref ag, .int i, .int k] ∧ SqL K H aw (t.v.map V.int) ∧ SqA K H ag (nv g) ∧ Ok t g ∧ i < t.n ∧ ¬ g.getD i 0 = k ∧ Q (.bl (Ks565.welcome t g i k)) H
section
variable {P : Program} {w : World} {K : PySem.W.Frag} {mg : Str → Option Value} {base : Heap}
theorem scWel : FnScope ["n", "worth", "groups", "person", "number", "other"] ["n", "worth", "groups", "person", "number"] (defScope sWel) := ⟨rfl, rfl, rfl, by decide +kernel, rfl, by decide +kernel, by decide +kernel⟩
theorem ok_wel (D : Dfx K mg "is_welcome" sWel ["n", "worth", "groups", "person", "number"]) (T : Txt mg) : Cal P w K mg base 1 "is_welcome" ["n", "worth", "groups", "person", "number"] (spWel K) := by
  refine D.ok scWel (fun vs H Q E h => ?_) (fun f cdv A outer s H vs Q E hr h => ?_)
  · obtain ⟨aw, ag, t, g, i, k, rfl, _⟩ := h
    rfl
  · obtain ⟨aw, ag, t, g, i, k, rfl, hW, hG, O, hi, hk, q⟩ := h
    have n5 := O.n5
    refine ⟨_, pss_cons (ps_for PassesOwn.never rfl (pi_range1 rfl T.range (pa_cons (pv 0) pa_nil)) (pg_name (i := 5) scWel.nd rfl (Or.inl rfl))
        (pss_one (ps_if (PW.pt (pw_and (pt_cmpR op_eq (pe_ix ix_any (pv 2) (pv 5) (fun _ _ => rfl)) (pv 4) (nomark _))
          (pw_and1 (pt_cmpR op_lt (pe_ix ix_list (pv 1) (pe_op op_add (pe_op op_mul (pv 5) (pv 0)) (pv 3)) (fun _ _ => rfl)) pe_int (nomark _)))))
          (pss_one (ps_ret pe_bl)) pss_nil)))
      (pss_one (ps_ret pe_bl)), ?_⟩
    refine ⟨_, rfl, (t.n : Int), rfl, by omega, by omega, for_range (lo := 0) (n := t.n) (fun j σ H' => H' = H ∧ (∀ o, o < j → g.getD o 0 = k → 0 ≤ Ks565.likes t o i) ∧ ∃ o : Option V, σ = [some (.int t.n), some (.ref aw), some (.ref ag), some (.int i), some (.int k), o])
      ⟨rfl, fun o ho => absurd ho (Nat.not_lt_zero o), none, rfl⟩ ?_ ?_⟩
    · rintro j σ H' hj ⟨rfl, up, o, rfl⟩
      rw [Int.zero_add]
      refine ⟨_, rfl, _, rfl, ag, _, _, _, rfl, rfl, hG, O.gat hj, _, rfl, rfl, _, rfl, ?_⟩
      by_cases d : g.getD j 0 = k
      · have c : ¬ j = i := fun z => hk (z ▸ d)
        refine if_t (veq d) ?_
        refine ⟨_, rfl, _, rfl, _, rfl, _, _, rfl, rfl, mul_small (by omega), _, rfl, _, _, rfl, rfl, aw, _, _, _, rfl, rfl, hW, O.vat hj hi, _, _, rfl, rfl, _, rfl, ?_⟩
        by_cases e : t.v.getD (j * t.n + i) 0 < 0
        · refine if_t e ?_
          have z : Ks565.welcome t g i k = false := welcome_false O.hg hj d (by rw [likes_ne c]; exact e)
          rw [z] at q
          exact q
        · refine if_f e ⟨rfl, fun o' ho' hg' => ?_, _, rfl⟩
          by_cases z : o' < j
          · exact up o' z hg'
          · have y : o' = j := by omega
            subst y
            rw [likes_ne c]
            omega
      · refine if_f (vne d) (iteF ⟨rfl, fun o' ho' hg' => ?_, _, rfl⟩)
        by_cases z : o' < j
        · exact up o' z hg'
        · have y : o' = j := by omega
          subst y
          exact absurd hg' d
    · rintro σ H' ⟨rfl, up, o, rfl⟩
      rw [welcome_true O.hg up] at q
      exact q
end
end Mte
namespace Mte
open PySem PySem.Spec PyProof.Rows L2
open Ks565 (Folk)
abbrev sLet : Stmt := top 13
def spLet (K : PySem.W.Frag) : Sp := fun vs H Q _ => ∃ (aw ag : Addr) (t : Folk) (g : List Nat) (i : Nat), vs = [.int t.n, .ref aw, .ref ag, .int i] ∧ SqL K H aw (t.v.map V.int) ∧ SqA K H ag (nv g) ∧ Ok t g ∧ i < t.n ∧ Q (.bl (Ks565.letGo t g i)) H
section
variable {P : Program} {w : World} {K : PySem.W.Frag} {mg : Str → Option Value} {base : Heap}
theorem scLet : FnScope ["n", "worth", "groups", "person", "other"] ["n", "worth", "groups", "person"] (defScope sLet) := ⟨rfl, rfl, rfl, by decide +kernel, rfl, by decide +kernel, by decide +kernel⟩
theorem ok_let (D : Dfx K mg "is_let_go" sLet ["n", "worth", "groups", "person"]) (T : Txt mg) : Cal P w K mg base 1 "is_let_go" ["n", "worth", "groups", "person"] (spLet K) := by
  refine D.ok scLet (fun vs H Q E h => ?_) (fun f cdv A outer s H vs Q E hr h => ?_)
  · obtain ⟨aw, ag, t, g, i, rfl, _⟩ := h
    rfl
  · obtain ⟨aw, ag, t, g, i, rfl, hW, hG, O, hi, q⟩ := h
    have n5 := O.n5
    refine ⟨_, pss_cons (ps_for PassesOwn.never rfl (pi_range1 rfl T.range (pa_cons (pv 0) pa_nil)) (pg_name (i := 4) scLet.nd rfl (Or.inl rfl))
        (pss_one (ps_if (PW.pt (pw_and (pt_cmpR op_ne (pv 4) (pv 3) (nomark _)) (pw_and (pt_cmpR op_eq (pe_ix ix_any (pv 2) (pv 4) (fun _ _ => rfl)) (pe_ix ix_any (pv 2) (pv 3) (fun _ _ => rfl)) (nomark _))
          (pw_and1 (pt_cmpR op_gt (pe_ix ix_list (pv 1) (pe_op op_add (pe_op op_mul (pv 4) (pv 0)) (pv 3)) (fun _ _ => rfl)) pe_int (nomark _))))))
          (pss_one (ps_ret pe_bl)) pss_nil)))
      (pss_one (ps_ret pe_bl)), ?_⟩
    refine ⟨_, rfl, (t.n : Int), rfl, by omega, by omega, for_range (lo := 0) (n := t.n) (fun j σ H' => H' = H ∧ (∀ o, o < j → o ≠ i → g.getD o 0 = g.getD i 0 → Ks565.likes t o i ≤ 0) ∧ ∃ o : Option V, σ = [some (.int t.n), some (.ref aw), some (.ref ag), some (.int i), o])
      ⟨rfl, fun o ho => absurd ho (Nat.not_lt_zero o), none, rfl⟩ ?_ ?_⟩
    · rintro j σ H' hj ⟨rfl, up, o, rfl⟩
      rw [Int.zero_add]
      have more : (j ≠ i → g.getD j 0 = g.getD i 0 → Ks565.likes t j i ≤ 0) → ∀ o', o' < j + 1 → o' ≠ i → g.getD o' 0 = g.getD i 0 → Ks565.likes t o' i ≤ 0 := fun hh o' ho' h1 h2 => by
        by_cases z : o' < j
        · exact up o' z h1 h2
        · have y : o' = j := by omega
          subst y
          exact hh h1 h2
      refine ⟨_, rfl, _, rfl, rfl, _, rfl, ?_⟩
      by_cases c : j = i
      · exact if_nf (veq c) (iteF ⟨rfl, more (fun z => absurd c z), _, rfl⟩)
      · refine if_nt (vne c) ?_
        refine ⟨_, rfl, _, rfl, ag, _, _, _, rfl, rfl, hG, O.gat hj, _, rfl, _, rfl, ag, _, _, _, rfl, rfl, hG, O.gat hi, rfl, _, rfl, ?_⟩
        by_cases d : g.getD j 0 = g.getD i 0
        · refine if_t (veq d) ?_
          refine ⟨_, rfl, _, rfl, _, rfl, _, _, rfl, rfl, mul_small (by omega), _, rfl, _, _, rfl, rfl, aw, _, _, _, rfl, rfl, hW, O.vat hj hi, _, _, rfl, rfl, _, rfl, ?_⟩
          by_cases e : 0 < t.v.getD (j * t.n + i) 0
          · refine if_t e ?_
            have z : Ks565.letGo t g i = false := letGo_false O.hg hj c d (by rw [likes_ne c]; exact e)
            rw [z] at q
            exact q
          · refine if_f e ⟨rfl, more (fun _ _ => ?_), _, rfl⟩
            rw [likes_ne c]
            omega
        · exact if_f (vne d) (iteF ⟨rfl, more (fun _ z => absurd z d), _, rfl⟩)
    · rintro σ H' ⟨rfl, up, o, rfl⟩
      rw [letGo_true O.hg up] at q
      exact q
end
end Mte
namespace Mte
open PySem PySem.Spec PyProof.Rows L2
open Ks565 (Folk)
abbrev sMay : Stmt := top 14
def spMay (K : PySem.W.Frag) : Sp := fun vs H Q _ => ∃ (aw ag : Addr) (t : Folk) (g : List Nat) (w i k : Nat), vs = [.int t.n, .int w, .ref aw, .ref ag, .int i, .int k] ∧ SqL K H aw (t.v.map V.int) ∧ SqA K H ag (nv g) ∧ Ok t g ∧ i < t.n ∧ w ≤ 2 ∧ k ≤ Ks565.groups g ∧ Q (.bl (Ks565.may t w g i k)) H
section
variable {P : Program} {w : World} {K : PySem.W.Frag} {mg : Str → Option Value} {base : Heap}
theorem scMay : FnScope ["n", "w", "worth", "groups", "person", "number"] ["n", "w", "worth", "groups", "person", "number"] (defScope sMay) := ⟨rfl, rfl, rfl, by decide +kernel, rfl, by decide +kernel, by decide +kernel⟩
theorem ok_may (D : Dfx K mg "may_go" sMay ["n", "w", "worth", "groups", "person", "number"]) (T : Txt mg) (CH : Cal P w K mg base 1 "has_with" ["n", "worth", "groups", "person", "number"] (spHas K))
    (CW : Cal P w K mg base 1 "is_welcome" ["n", "worth", "groups", "person", "number"] (spWel K)) (CL : Cal P w K mg base 1 "is_let_go" ["n", "worth", "groups", "person"] (spLet K)) : Cal P w K mg base 2 "may_go" ["n", "w", "worth", "groups", "person", "number"] (spMay K) := by
  refine D.ok scMay (fun vs H Q E h => ?_) (fun f cdv A outer s H vs Q E hr h => ?_)
  · obtain ⟨aw, ag, t, g, w', i, k, rfl, _⟩ := h
    rfl
  · obtain ⟨aw, ag, t, g, w', i, k, rfl, hW, hG, O, hi, hw, hk, q⟩ := h
    refine ⟨_, pss_cons (ps_if (pt_cmpR op_le (pe_cal CH hr rfl (pa_cons (pv 0) (pa_cons (pv 2) (pa_cons (pv 3) (pa_cons (pv 4) (pa_cons (pv 5) pa_nil))))))
          (pe_cal CH hr rfl (pa_cons (pv 0) (pa_cons (pv 2) (pa_cons (pv 3) (pa_cons (pv 4) (pa_cons (pe_ix ix_any (pv 3) (pv 4) (fun _ _ => rfl)) pa_nil)))))) (nomark _)) (pss_one (ps_ret pe_bl)) pss_nil)
      (pss_cons (ps_if (PW.pt (pw_and (pt_cmpR op_ge (pv 1) (pe_gi rfl T.wel) (nomark _)) (pw_and1 (pt_not (pt_val (pe_cal CW hr rfl (pa_cons (pv 0) (pa_cons (pv 2) (pa_cons (pv 3) (pa_cons (pv 4) (pa_cons (pv 5) pa_nil))))))))))) (pss_one (ps_ret pe_bl)) pss_nil)
      (pss_cons (ps_if (PW.pt (pw_and (pt_cmpR op_ge (pv 1) (pe_gi rfl T.lgo) (nomark _)) (pw_and1 (pt_not (pt_val (pe_cal CL hr rfl (pa_cons (pv 0) (pa_cons (pv 2) (pa_cons (pv 3) (pa_cons (pv 4) pa_nil)))))))))) (pss_one (ps_ret pe_bl)) pss_nil)
      (pss_one (ps_ret pe_bl)))), ?_⟩
    refine ⟨_, rfl, _, rfl, _, rfl, _, rfl, _, rfl, aw, ag, t, g, i, k, rfl, hW, hG, O, hi, ?_⟩
    refine ⟨_, rfl, _, rfl, _, rfl, _, rfl, _, rfl, _, rfl, ag, _, _, _, rfl, rfl, hG, O.gat hi, aw, ag, t, g, i, g.getD i 0, rfl, hW, hG, O, hi, _, _, rfl, rfl, _, rfl, ?_⟩
    by_cases c : hasW t g i k ≤ hasW t g i (g.getD i 0)
    · refine if_t c ?_
      rw [may_less c] at q
      exact q
    · refine if_f c ?_
      have hr1 := rather_true hk c
      -- the way's last test
      have last : (w' = 0 ∨ Ks565.welcome t g i k = true) → (tSeq (tIfS (tAnd (tTest (tOp (rI0 fun i j => .bl (decide (j ≤ i))) (tVar 1) (tC (.int 2)))) (tNot (tB (tCall (spLet K) [] E0 (tCons (tVar 0) (tCons (tVar 2) (tCons (tVar 3) (tCons (tVar 4) tNil)))))))) (tRet (tC (.bl false))) tNext) (tRet (tC (.bl true))))
          { nx := fun _ H' => Q .non H', rt := Q } [some (.int t.n), some (.int w'), some (.ref aw), some (.ref ag), some (.int i), some (.int k)] H := fun h1 => by
        refine ⟨_, rfl, _, _, rfl, rfl, _, rfl, ?_⟩
        by_cases d : (2 : Int) ≤ (w' : Int)
        · refine if_t d ?_
          refine ⟨_, rfl, _, rfl, _, rfl, _, rfl, aw, ag, t, g, i, rfl, hW, hG, O, hi, _, rfl, ?_⟩
          cases e : Ks565.letGo t g i with
          | false =>
            refine iteT ?_
            rw [may_not_letGo (by omega) e] at q
            exact q
          | true =>
            refine iteF ?_
            rw [may_yes hr1 h1 (.inr e)] at q
            exact q
        · refine if_f d (iteF ?_)
          rw [may_yes hr1 h1 (.inl (by omega))] at q
          exact q
      refine ⟨_, rfl, _, _, rfl, rfl, _, rfl, ?_⟩
      by_cases d : (1 : Int) ≤ (w' : Int)
      · refine if_t d ?_
        refine ⟨_, rfl, _, rfl, _, rfl, _, rfl, _, rfl, aw, ag, t, g, i, k, rfl, hW, hG, O, hi, ne_of_more c, _, rfl, ?_⟩
        cases e : Ks565.welcome t g i k with
        | false =>
          refine iteT ?_
          rw [may_not_welcome (by omega) e] at q
          exact q
        | true =>
          refine iteF ?_
          exact last (.inr e)
      · refine if_f d (iteF ?_)
        exact last (.inl (by omega))
end
end Mte
namespace Mte
open PySem PySem.Spec PyProof.Rows L2
open Ks565 (Folk)
abbrev sWhe : Stmt := top 15
def ksUp (t : Folk) (w : Nat) (g : List Nat) (i j : Nat) : List Nat := (List.range j).filter fun k => Ks565.may t w g i k
theorem ksUp_yes {t : Folk} {w : Nat} {g : List Nat} {i j : Nat} (h : Ks565.may t w g i j = true) : ksUp t w g i (j + 1) = ksUp t w g i j ++ [j] := by
  unfold ksUp
  rw [List.range_succ, List.filter_append, List.filter_cons, if_pos h]
  rfl
theorem ksUp_no {t : Folk} {w : Nat} {g : List Nat} {i j : Nat} (h : Ks565.may t w g i j = false) : ksUp t w g i (j + 1) = ksUp t w g i j := by
  unfold ksUp
  rw [List.range_succ, List.filter_append, List.filter_cons, if_neg (by rw [h]; exact Bool.false_ne_true)]
  exact List.append_nil _
theorem ksUp_len (t : Folk) (w : Nat) (g : List Nat) (i j : Nat) : (ksUp t w g i j).length ≤ j := by
  unfold ksUp
  exact Nat.le_trans (List.length_filter_le _ _) (by rw [List.length_range]; exact Nat.le_refl _)
theorem nv_snoc (g : List Nat) (x : Nat) : nv (g ++ [x]) = nv g ++ [.int (x : Nat)] := by
  unfold nv
  rw [List.map_append]
  rfl
/-- the numbers of the groups one may go to, in a new list -/
def spWhe (K : PySem.W.Frag) : Sp := fun vs H Q _ => ∃ (aw ag : Addr) (t : Folk) (g : List Nat) (w i : Nat), vs = [.int t.n, .int w, .ref aw, .ref ag, .int i] ∧ SqL K H aw (t.v.map V.int) ∧ SqA K H ag (nv g) ∧ Ok t g ∧ i < t.n ∧ w ≤ 2 ∧ (∀ x ∈ g, x < t.n) ∧
  ∀ p, H p = none → Q (.ref p) (upd H p (.lst (nv (ks t w g i))))
section
variable {P : Program} {w : World} {K : PySem.W.Frag} {mg : Str → Option Value} {base : Heap}
theorem scWhe : FnScope ["n", "w", "worth", "groups", "person", "alone", "number"] ["n", "w", "worth", "groups", "person"] (defScope sWhe) := ⟨rfl, rfl, rfl, by decide +kernel, rfl, by decide +kernel, by decide +kernel⟩
theorem ok_whe (D : Dfx K mg "where_one_may_go" sWhe ["n", "w", "worth", "groups", "person"]) (T : Txt mg) (CM : Cal P w K mg base 2 "may_go" ["n", "w", "worth", "groups", "person", "number"] (spMay K)) :
    Cal P w K mg base 3 "where_one_may_go" ["n", "w", "worth", "groups", "person"] (spWhe K) := by
  refine D.ok scWhe (fun vs H Q E h => ?_) (fun f cdv A outer s H vs Q E hr h => ?_)
  · obtain ⟨aw, ag, t, g, w', i, rfl, _⟩ := h
    rfl
  · obtain ⟨aw, ag, t, g, w', i, rfl, hW, hG, O, hi, hw, hx, q⟩ := h
    have n5 := O.n5
    refine ⟨_, pss_cons (ps_set (i := 5) scWhe.nd rfl (Or.inl rfl) (pe_op op_add (pe_callB (cr_maxA rfl) (by rfl) T.max (by decide +kernel) (pa_cons (pv 3) pa_nil)) pe_int))
      (pss_one (ps_ret (pe_lc (own := [("number", 6)]) (g := gName 6) rfl scWhe.nd (pi_range1 rfl T.range (pa_cons (pe_op op_add (pv 5) pe_int) pa_nil))
        (blkOk_by (own := [("number", 6)]) (N := ["n", "w", "worth", "groups", "person", "alone", "number"]) (sc := defScope sWhe) (by decide +kernel)) (fun _ _ _ _ _ => pg_name (i := 6) scWhe.nd rfl (Or.inl rfl))
        (fun _ _ _ _ _ => pts_one (pt_val (pe_cal CM hr rfl (pa_cons (pv 0) (pa_cons (pv 1) (pa_cons (pv 2) (pa_cons (pv 3) (pa_cons (pv 4) (pa_cons (pv 6) pa_nil)))))))))
        (fun _ _ _ _ _ => pv 6)))), ?_⟩
    refine ⟨_, rfl, ag, Ks565.ints g, rfl, nv_ints g ▸ hG, ?_, fun m hm hle => ?_⟩
    · show 0 < (g.map Int.ofNat).length
      rw [List.length_map, O.hg]
      exact O.n1
    obtain ⟨m', hm', rfl⟩ := List.mem_map.mp hm
    have hmax : ∀ x ∈ g, x ≤ m' := fun x hx' => by
      have z := hle (Int.ofNat x) (List.mem_map.mpr ⟨x, hx', rfl⟩)
      exact Int.ofNat_le.mp z
    have gs : Ks565.groups g = m' + 1 := groups_of hm' hmax
    have m5 : m' < 5 := Nat.lt_of_lt_of_le (hx m' hm') n5
    refine ⟨_, _, rfl, rfl, ?_⟩
    refine ⟨_, rfl, _, _, rfl, rfl, ((m' + 2 : Nat) : Int), congrArg (fun z => [V.int z]) (by show ((m' : Nat) : Int) + 1 + 1 = ((m' + 2 : Nat) : Int); omega), by omega, by omega, fun D hD => ?_⟩
    refine lc_range (lo := 0) (n := m' + 2) (fun j H' => H' = upd H D (.lst (nv (ksUp t w' g i j)))) rfl ?_ ?_
    · rintro j H' hj rfl
      have sD : ∀ o, Same H (upd H D o) := fun o => Same.new hD
      rw [Int.zero_add]
      refine ⟨rfl, _, rfl, _, rfl, _, rfl, _, rfl, _, rfl, _, rfl, aw, ag, t, g, w', i, j, rfl, (sD _).seq hW, (sD _).any hG, O, hi, hw, by omega, _, rfl, ?_⟩
      cases e : Ks565.may t w' g i j with
      | false =>
        refine iteF ?_
        rw [ksUp_no e]
      | true =>
        refine iteT ⟨_, rfl, _, upd_same, small1000 ?_, ?_⟩
        · rw [nv_len]
          have := ksUp_len t w' g i j
          omega
        · rw [upd_upd, ksUp_yes e, nv_snoc]
    · rintro H' rfl
      have e : ks t w' g i = ksUp t w' g i (m' + 2) := by
        unfold ks ksUp
        rw [gs]
      have z := q D hD
      rw [e] at z
      exact z
end
end Mte
namespace Mte
open PySem PySem.Spec PyProof.Rows L2
open Ks565 (Folk)
abbrev sNum : Stmt := top 10
def spNum (K : PySem.W.Frag) : Sp := fun vs H Q _ => ∃ (ag : Addr) (g : List Nat), vs = [.ref ag] ∧ SqL K H ag (nv g) ∧ g.length ≤ 900 ∧
  ∀ (H' : Hp) (p : Addr), Same H H' → H p = none → H' p = some (.lst (nv (Ks565.tidy g))) → Q (.ref p) H'
section
variable {P : Program} {w : World} {K : PySem.W.Frag} {mg : Str → Option Value} {base : Heap}
theorem scNum : FnScope ["groups", "new_numbers", "answer", "number"] ["groups"] (defScope sNum) := ⟨rfl, rfl, rfl, by decide +kernel, rfl, by decide +kernel, by decide +kernel⟩
theorem ok_num (D : Dfx K mg "numbered_as_they_come" sNum ["groups"]) (T : TxtW mg) : Cal P w K mg base 1 "numbered_as_they_come" ["groups"] (spNum K) := by
  refine D.ok scNum (fun vs H Q E h => ?_) (fun f cdv A outer s H vs Q E hr h => ?_)
  · obtain ⟨ag, g, rfl, _⟩ := h
    rfl
  · obtain ⟨ag, g, rfl, hG, hlen, q⟩ := h
    have hu := hu_of hr
    refine ⟨_, pss_cons (ps_set (i := 1) scNum.nd rfl (Or.inl rfl) pe_dnewK)
      (pss_cons (ps_set (i := 2) scNum.nd rfl (Or.inl rfl) (pe_lst pa_nil))
      (pss_cons (ps_for PassesOwn.never rfl (pi_list (pv 0)) (pg_name (i := 3) scNum.nd rfl (Or.inl rfl))
        (pss_cons (ps_if (pt_cmp (pc_dnotin hu (pv 3) (pv 1)))
          (pss_one (ps_dput hu (pv 1) (pv 3) (pe_callB call_lenD (by rfl) T.len PySem.boot_len (pa_cons (pv 1) pa_nil)) rfl)) pss_nil)
        (pss_one (ps_expr (pe_bm PySem.F.plainAttrs_list PySem.F.slot_list_append PySem.F.type_list_append mt_append (pv 2) (pa_cons (pe_dget hu (pv 1) (pv 3) (fun _ _ => rfl)) pa_nil))))))
      (pss_one (ps_ret (pv 2))))), ?_⟩
    intro d hd
    refine ⟨Nat.zero_le _, fun l hl => ?_⟩
    have nl : l ≠ d := fun z => by
      rw [z, upd_same] at hl
      cases hl
    have hl0 : H l = none := by
      rw [upd_ne nl] at hl
      exact hl
    have s1 : Same H (upd (upd H d (.dK [])) l (.lst [])) := (Same.new hd).newer hl0
    refine ⟨_, rfl, ag, rfl, ⟨_, s1.seq hG⟩, for_list (K := K) (a := ag) (xs := nv g) (fun j σ H' => ∃ (kvs : List (Key × V)) (v : Option V), σ = [some (.ref ag), some (.ref d), some (.ref l), v] ∧ Same H H' ∧ H' d = some (.dK kvs) ∧
        H' l = some (.lst (nv (tidyUp (g.take j)))) ∧ kvs.length = (firsts (g.take j)).length ∧ ∀ x : Nat, valV kvs (Sum.inl (x : Int) : Key) = if x ∈ firsts (g.take j) then some (.int (idx (firsts (g.take j)) x : Nat)) else none)
      ⟨[], none, rfl, s1, by rw [upd_ne nl.symm, upd_same], upd_same, rfl, fun x => rfl⟩ (fun j σ H' _ ⟨_, _, _, s2, _⟩ => s2.seq hG) ?_ ?_⟩
    · rintro j y σ H' hj ⟨kvs, v, rfl, s2, h1, h2, h3, h4⟩
      obtain ⟨x, hx, rfl⟩ := of_map_at hj
      have tk := take_more hx
      have jl : (g.take j).length ≤ 900 := Nat.le_trans (by rw [List.length_take]; exact Nat.min_le_right _ _) hlen
      have fl : (firsts (g.take j)).length ≤ 900 := Nat.le_trans (firsts_len _) jl
      have al : (nv (tidyUp (g.take j))).length < sizeLine := small1000 (by
        rw [nv_len]
        unfold tidyUp
        rw [List.length_map]
        omega)
      have key := h4 x
      refine ⟨_, rfl, _, rfl, d, _, rfl, DGet.k (k := Sum.inl (x : Int)) h1, _, rfl, ?_⟩
      by_cases c : x ∈ firsts (g.take j)
      · rw [if_pos c] at key
        rw [key]
        refine iteF ?_
        refine ⟨_, rfl, .inl ⟨rfl, _, SqL.of h2⟩, _, rfl, _, rfl, d, _, rfl, (by have z := DGet.k (k := Sum.inl (x : Int)) h1; rw [key] at z; exact z), l, _, _, rfl, rfl, h2, al, ?_⟩
        rw [tk]
        refine ⟨kvs, _, rfl, s2.newer hl0, by rw [upd_ne nl.symm]; exact h1, ?_, by rw [firsts_in c]; exact h3, by rw [firsts_in c]; exact h4⟩
        rw [upd_same, tidyUp_in c]
        unfold nv
        rw [List.map_append]
        rfl
      · rw [if_neg c] at key
        rw [key]
        refine iteT ?_
        refine ⟨_, rfl, d, kvs, rfl, h1, _, rfl, _, rfl, d, _, rfl, DPut.k (k := Sum.inl (x : Int)) h1 (small1000 (by omega)), ?_⟩
        have h2' : (upd H' d (.dK (putK kvs (Sum.inl (x : Int) : Key) (.int kvs.length)))) l = some (.lst (nv (tidyUp (g.take j)))) := by
          rw [upd_ne nl]
          exact h2
        refine ⟨_, rfl, .inl ⟨rfl, _, SqL.of h2'⟩, _, rfl, _, rfl, d, _, rfl, (by have z := DGet.k (k := Sum.inl (x : Int)) (upd_same (H := H') (a := d) (o := .dK (putK kvs (Sum.inl (x : Int) : Key) (.int kvs.length)))); rw [valV_put, if_pos rfl] at z; exact z), l, _, _, rfl, rfl, h2', al, ?_⟩
        rw [tk]
        refine ⟨putK kvs (Sum.inl (x : Int) : Key) (.int kvs.length), _, rfl, (s2.newer hd).newer hl0, by rw [upd_ne nl.symm, upd_same], ?_, ?_, fun z => ?_⟩
        · rw [upd_same, tidyUp_new c]
          unfold nv
          rw [List.map_append, h3]
          rfl
        · rw [putK_new _ key, firsts_new c, List.length_append, List.length_append, h3]
          rfl
        · rw [valV_put, firsts_new c]
          by_cases e : z = x
          · subst e
            rw [if_pos rfl, if_pos (by simp), idx_new c, h3]
          · rw [if_neg (fun y => e (Int.ofNat_inj.mp (Sum.inl.inj y))), h4 z]
            by_cases m : z ∈ firsts (g.take j)
            · rw [if_pos m, if_pos (List.mem_append_left _ m), idx_more m]
            · rw [if_neg m, if_neg (by simp [m, e])]
    · rintro σ H' ⟨kvs, v, rfl, s2, h1, h2, h3, h4⟩
      refine ⟨_, rfl, ?_⟩
      rw [nv_len, List.take_length] at h2
      exact q H' l s2 hl0 h2
end
end Mte
namespace Mte
open PySem PySem.Spec PyProof.Rows L2
open Ks565 (Folk)
abbrev sMov : Stmt := top 16
def spMov (K : PySem.W.Frag) : Sp := fun vs H Q _ => ∃ (ag : Addr) (g : List Nat) (i k : Nat), vs = [.ref ag, .int i, .int k] ∧ SqA K H ag (nv g) ∧ g.length ≤ 900 ∧ i < g.length ∧
  ∀ (H' : Hp) (p : Addr), Same H H' → H p = none → H' p = some (.lst (nv (Ks565.go g i k))) → Q (.ref p) H'
section
variable {P : Program} {w : World} {K : PySem.W.Frag} {mg : Str → Option Value} {base : Heap}
theorem scMov : FnScope ["groups", "person", "number", "behind"] ["groups", "person", "number"] (defScope sMov) := ⟨rfl, rfl, rfl, by decide +kernel, rfl, by decide +kernel, by decide +kernel⟩
theorem ok_mov (D : Dfx K mg "moved" sMov ["groups", "person", "number"]) (T : Txt mg) (CN : Cal P w K mg base 1 "numbered_as_they_come" ["groups"] (spNum K)) : Cal P w K mg base 2 "moved" ["groups", "person", "number"] (spMov K) := by
  refine D.ok scMov (fun vs H Q E h => ?_) (fun f cdv A outer s H vs Q E hr h => ?_)
  · obtain ⟨ag, g, i, k, rfl, _⟩ := h
    rfl
  · obtain ⟨ag, g, i, k, rfl, hG, hlen, hi, q⟩ := h
    refine ⟨_, pss_cons (ps_set (i := 3) scMov.nd rfl (Or.inl rfl) (pe_callTy call_list_of (by rfl) T.list (by decide +kernel) (pa_cons (pv 0) pa_nil)))
      (pss_cons (ps_asg (pv 2) (pg_sub (pv 3) (pv 1) set_list))
      (pss_one (ps_ret (pe_cal CN hr rfl (pa_cons (pv 3) pa_nil))))), ?_⟩
    refine ⟨_, rfl, ag, _, rfl, hG, fun l hl => ?_⟩
    refine ⟨_, rfl, _, rfl, _, rfl, l, _, _, i, rfl, rfl, upd_same, ixN_nat (by rw [nv_len]; exact hi), ?_⟩
    refine ⟨_, rfl, l, g.set i k, rfl, SqL.of (by rw [upd_same, nv_set]), by rw [List.length_set]; exact hlen, fun H' p s2 np e => ?_⟩
    have s1 : Same H (upd (upd H l (.lst (nv g))) l (.lst ((nv g).set i (.int k)))) := (Same.new hl).newer hl
    exact q H' p (s1.trans s2) (s1.free np) e
end
end Mte
namespace Mte
open PySem PySem.Spec PyProof.Rows L2
open Ks565 (Folk)
abbrev sWor : Stmt := top 7
def spWor (K : PySem.W.Frag) : Sp := fun vs H Q _ => ∃ (aw : Addr) (n : Nat) (v : List Int), vs = [.int n, .ref aw] ∧ SqL K H aw (v.map V.int) ∧ n < 5000000000 ∧ ∀ b, (b = true ↔ okW n v) → Q (.bl b) H
section
variable {P : Program} {w : World} {K : PySem.W.Frag} {mg : Str → Option Value} {base : Heap}
theorem scWor : FnScope ["n", "worth", "value"] ["n", "worth"] (defScope sWor) := ⟨rfl, rfl, rfl, by decide +kernel, rfl, by decide +kernel, by decide +kernel⟩
theorem ok_wor (D : Dfx K mg "worth_is_told" sWor ["n", "worth"]) (T : TxtW mg) : Cal P w K mg base 1 "worth_is_told" ["n", "worth"] (spWor K) := by
  refine D.ok scWor (fun vs H Q E h => ?_) (fun f cdv A outer s H vs Q E hr h => ?_)
  · obtain ⟨aw, n, v, rfl, _⟩ := h
    rfl
  · obtain ⟨aw, n, v, rfl, hW, hn, q⟩ := h
    refine ⟨_, pss_cons (ps_if (PW.pt (pw_or (pt_cmpR op_lt (pv 0) pe_int (nomark _)) (pw_or (pt_cmpR op_gt (pv 0) (pe_gi rfl T.people) (nomark _))
          (pw_or1 (pt_cmpR op_ne (pe_callB call_len_seq (by rfl) T.len PySem.boot_len (pa_cons (pv 1) pa_nil)) (pe_op op_mul (pv 0) (pv 0)) (nomark _)))))) (pss_one (ps_ret pe_bl)) pss_nil)
      (pss_cons (ps_for PassesOwn.never rfl (pi_list (pv 1)) (pg_name (i := 2) scWor.nd rfl (Or.inl rfl))
        (pss_one (ps_if (PW.pt (pw_or (pt_cmpR op_lt (pv 2) (pe_un un_neg (pe_gi rfl T.most)) (nomark _)) (pw_or1 (pt_cmpR op_gt (pv 2) (pe_gi rfl T.most) (nomark _))))) (pss_one (ps_ret pe_bl)) pss_nil)))
      (pss_one (ps_ret pe_bl))), ?_⟩
    have no : ¬ okW n v → Q (.bl false) H := fun z => q false ⟨fun y => (Bool.false_ne_true y).elim, fun y => absurd y z⟩
    refine ⟨_, rfl, _, _, rfl, rfl, _, rfl, ?_⟩
    by_cases c1 : (n : Int) < 1
    · exact if_t c1 (iteT (no fun z => by have := z.1; omega))
    refine if_f c1 ?_
    refine ⟨_, rfl, _, _, rfl, rfl, _, rfl, ?_⟩
    by_cases c2 : (5 : Int) < (n : Int)
    · exact if_t c2 (iteT (no fun z => by have := z.2.1; omega))
    refine if_f c2 ?_
    refine ⟨_, rfl, aw, _, rfl, .inl hW, _, rfl, _, rfl, _, _, rfl, rfl, mul_small hn, rfl, _, rfl, ?_⟩
    have el : ((v.map V.int).length : Int) = (n : Int) * (n : Int) ↔ v.length = n * n := by
      rw [List.length_map, ← Int.natCast_mul]
      exact Int.ofNat_inj
    by_cases c3 : v.length = n * n
    · refine if_nf (congrArg V.int (el.mpr c3)) ?_
      refine ⟨_, rfl, aw, rfl, ⟨_, hW⟩, for_list (K := K) (a := aw) (xs := v.map V.int) (fun j σ H' => H' = H ∧ (∀ x ∈ v.take j, -20 ≤ x ∧ x ≤ 20) ∧ ∃ o : Option V, σ = [some (.int n), some (.ref aw), o])
        ⟨rfl, fun x hx => by simp at hx, none, rfl⟩ (fun j σ H' _ ⟨e, _⟩ => e ▸ hW) ?_ ?_⟩
      · rintro j y σ H' hj ⟨rfl, up, o, rfl⟩
        obtain ⟨x, hx, rfl⟩ := of_map_at hj
        have xin : x ∈ v := List.mem_of_getElem? hx
        have tk := take_more hx
        refine ⟨_, rfl, _, rfl, _, _, rfl, rfl, _, rfl, ?_⟩
        by_cases d1 : x < -20
        · exact if_t d1 (iteT (no fun z => by have := (z.2.2.2 x xin).1; omega))
        refine if_f d1 ?_
        refine ⟨_, rfl, _, _, rfl, rfl, _, rfl, ?_⟩
        by_cases d2 : 20 < x
        · exact if_t d2 (no fun z => by have := (z.2.2.2 x xin).2; omega)
        refine if_f d2 ⟨rfl, fun z hz => ?_, _, rfl⟩
        rw [tk] at hz
        rcases List.mem_append.mp hz with a | a
        · exact up z a
        · rw [List.mem_singleton.mp a]
          omega
      · rintro σ H' ⟨rfl, up, o, rfl⟩
        rw [List.length_map, List.take_length] at up
        exact q true ⟨fun _ => ⟨by omega, by omega, c3, up⟩, fun _ => rfl⟩
    · exact if_nt (fun z => c3 (el.mp (V.int.inj z))) (no fun z => c3 z.2.2.1)
end
end Mte
namespace Mte
open PySem PySem.Spec PyProof.Rows L2
open Ks565 (Folk)
abbrev sGro : Stmt := top 8
def spGro (K : PySem.W.Frag) : Sp := fun vs H Q _ => ∃ (ag : Addr) (n : Nat) (g : List Nat), vs = [.int n, .ref ag] ∧ SqL K H ag (nv g) ∧ ∀ b, (b = true ↔ okG n g) → Q (.bl b) H
section
variable {P : Program} {w : World} {K : PySem.W.Frag} {mg : Str → Option Value} {base : Heap}
theorem scGro : FnScope ["n", "groups", "number"] ["n", "groups"] (defScope sGro) := ⟨rfl, rfl, rfl, by decide +kernel, rfl, by decide +kernel, by decide +kernel⟩
theorem ok_gro (D : Dfx K mg "groups_are_told" sGro ["n", "groups"]) (T : TxtW mg) : Cal P w K mg base 1 "groups_are_told" ["n", "groups"] (spGro K) := by
  refine D.ok scGro (fun vs H Q E h => ?_) (fun f cdv A outer s H vs Q E hr h => ?_)
  · obtain ⟨ag, n, g, rfl, _⟩ := h
    rfl
  · obtain ⟨ag, n, g, rfl, hG, q⟩ := h
    refine ⟨_, pss_cons (ps_if (pt_cmpR op_ne (pe_callB call_len_seq (by rfl) T.len PySem.boot_len (pa_cons (pv 1) pa_nil)) (pv 0) (nomark _)) (pss_one (ps_ret pe_bl)) pss_nil)
      (pss_cons (ps_for PassesOwn.never rfl (pi_list (pv 1)) (pg_name (i := 2) scGro.nd rfl (Or.inl rfl))
        (pss_one (ps_if (pt_cmpR op_ge (pv 2) (pv 0) (nomark _)) (pss_one (ps_ret pe_bl)) pss_nil)))
      (pss_one (ps_ret pe_bl))), ?_⟩
    have no : ¬ okG n g → Q (.bl false) H := fun z => q false ⟨fun y => (Bool.false_ne_true y).elim, fun y => absurd y z⟩
    refine ⟨_, rfl, ag, _, rfl, .inl hG, _, rfl, rfl, _, rfl, ?_⟩
    by_cases c : g.length = n
    · refine if_nf (veq (by rw [nv_len]; exact c)) ?_
      refine ⟨_, rfl, ag, rfl, ⟨_, hG⟩, for_list (K := K) (a := ag) (xs := nv g) (fun j σ H' => H' = H ∧ (∀ x ∈ g.take j, x < n) ∧ ∃ o : Option V, σ = [some (.int n), some (.ref ag), o])
        ⟨rfl, fun x hx => by simp at hx, none, rfl⟩ (fun j σ H' _ ⟨e, _⟩ => e ▸ hG) ?_ ?_⟩
      · rintro j y σ H' hj ⟨rfl, up, o, rfl⟩
        obtain ⟨x, hx, rfl⟩ := of_map_at hj
        have xin : x ∈ g := List.mem_of_getElem? hx
        have tk := take_more hx
        refine ⟨_, rfl, _, rfl, _, _, rfl, rfl, _, rfl, ?_⟩
        by_cases d : (n : Int) ≤ (x : Int)
        · exact if_t d (no fun z => by have := z.2 x xin; omega)
        refine if_f d ⟨rfl, fun z hz => ?_, _, rfl⟩
        rw [tk] at hz
        rcases List.mem_append.mp hz with a | a
        · exact up z a
        · rw [List.mem_singleton.mp a]
          omega
      · rintro σ H' ⟨rfl, up, o, rfl⟩
        rw [nv_len, List.take_length] at up
        exact q true ⟨fun _ => ⟨c, up⟩, fun _ => rfl⟩
    · exact if_nt (vne (by rw [nv_len]; exact c)) (no fun z => c z.1)
end
end Mte
namespace Mte
open PySem PySem.Spec PyProof.Rows L2
open Ks565 (Folk)
abbrev sRef : Stmt := top 9
def spRef (K : PySem.W.Frag) : Sp := fun vs H Q _ => ∃ (aw ag : Addr) (n w : Nat) (v : List Int) (g : List Nat), vs = [.int n, .int w, .ref aw, .ref ag] ∧ SqL K H aw (v.map V.int) ∧ SqL K H ag (nv g) ∧ n < 5000000000 ∧
  ∀ b, (b = false ↔ okW n v ∧ okG n g ∧ w ≤ 2) → Q (.bl b) H
section
variable {P : Program} {w : World} {K : PySem.W.Frag} {mg : Str → Option Value} {base : Heap}
theorem scRef : FnScope ["n", "w", "worth", "groups"] ["n", "w", "worth", "groups"] (defScope sRef) := ⟨rfl, rfl, rfl, by decide +kernel, rfl, by decide +kernel, by decide +kernel⟩
theorem ok_ref (D : Dfx K mg "is_refused" sRef ["n", "w", "worth", "groups"]) (T : Txt mg) (CW : Cal P w K mg base 1 "worth_is_told" ["n", "worth"] (spWor K)) (CG : Cal P w K mg base 1 "groups_are_told" ["n", "groups"] (spGro K)) : Cal P w K mg base 2 "is_refused" ["n", "w", "worth", "groups"] (spRef K) := by
  refine D.ok scRef (fun vs H Q E h => ?_) (fun f cdv A outer s H vs Q E hr h => ?_)
  · obtain ⟨aw, ag, n, w', v, g, rfl, _⟩ := h
    rfl
  · obtain ⟨aw, ag, n, w', v, g, rfl, hW, hG, hn, q⟩ := h
    refine ⟨_, pss_one (ps_ret (pe_or (pe_not (pe_cal CW hr rfl (pa_cons (pv 0) (pa_cons (pv 2) pa_nil)))) (pe_or (pe_not (pe_cal CG hr rfl (pa_cons (pv 0) (pa_cons (pv 3) pa_nil)))) (pe_one (pe_cmpR op_gt (pv 1) (pe_gi rfl T.last) (nomark _)))))), ?_⟩
    refine ⟨_, rfl, _, rfl, aw, n, v, rfl, hW, hn, fun b hb => ⟨_, rfl, _, rfl, ?_⟩⟩
    cases b with
    | false => exact iteT (q true ⟨fun z => (by cases z), fun z => (hb.mpr z.1).symm⟩)
    | true =>
      refine iteF ?_
      have h1 := hb.mp rfl
      refine ⟨_, rfl, _, rfl, ag, n, g, rfl, hG, fun b hb => ⟨_, rfl, _, rfl, ?_⟩⟩
      cases b with
      | false => exact iteT (q true ⟨fun z => (by cases z), fun z => (hb.mpr z.2.1).symm⟩)
      | true =>
        refine iteF ?_
        have h2 := hb.mp rfl
        refine ⟨_, rfl, _, _, rfl, rfl, ?_⟩
        refine q _ ⟨fun z => ⟨h1, h2, ?_⟩, fun z => decide_eq_false ?_⟩
        · have := of_decide_eq_false z
          omega
        · have := z.2.2
          omega
end
end Mte
namespace Mte
open PySem PySem.Spec PyProof.Rows L2
open Ks565 (Folk)
theorem fo_no {n : Nat} {v : List Int} {f : Folk → Ks565.Ans} (c : ¬ okW n v) : Ks565.folk n v f = Ks565.no (-22) := by
  refine folk_none ?_
  by_cases c1 : n < 1
  · exact .inl c1
  by_cases c2 : 5 < n
  · exact .inr (.inl c2)
  by_cases c3 : v.length = n * n
  · refine .inr (.inr (.inr ?_))
    refine Classical.byContradiction fun z => c ⟨by omega, by omega, c3, fun x hx => ?_⟩
    refine Classical.byContradiction fun y => z ⟨x, hx, by omega⟩
  · exact .inr (.inr (.inl c3))
theorem fo_yes {n : Nat} {v : List Int} {f : Folk → Ks565.Ans} (c : okW n v) : Ks565.folk n v f = f ⟨n, v⟩ := folk_some c.1 c.2.1 c.2.2.1 c.2.2.2
theorem in_no {n : Nat} {v : List Int} {g : List Nat} {f : Folk → List Nat → Ks565.Ans} (h : ¬ (okW n v ∧ okG n g)) : Ks565.inGroups n v g f = Ks565.no (-22) := by
  unfold Ks565.inGroups
  by_cases c : okW n v
  · rw [fo_yes c]
    refine if_neg fun d => ?_
    unfold Ks565.okGroups at d
    rw [Bool.and_eq_true, List.all_eq_true] at d
    have d1 : g.length = n := by simpa using d.1
    exact h ⟨c, d1, fun x hx => of_decide_eq_true (d.2 x hx)⟩
  · exact fo_no c
theorem in_yes {n : Nat} {v : List Int} {g : List Nat} {f : Folk → List Nat → Ks565.Ans} (c : okW n v) (d : okG n g) : Ks565.inGroups n v g f = f ⟨n, v⟩ (Ks565.tidy g) := by
  unfold Ks565.inGroups
  have dd : Ks565.okGroups ⟨n, v⟩ g = true := by
    unfold Ks565.okGroups
    rw [Bool.and_eq_true, List.all_eq_true]
    exact ⟨by simpa using d.1, fun x hx => decide_eq_true (d.2 x hx)⟩
  rw [fo_yes c]
  exact if_pos dd
theorem way_no {n w : Nat} {v : List Int} {g : List Nat} {f : Folk → List Nat → Ks565.Ans} (h : ¬ (okW n v ∧ okG n g ∧ w ≤ 2)) : Ks567.way n w v g f = Ks565.no (-22) := by
  unfold Ks567.way
  by_cases c : okW n v ∧ okG n g
  · rw [in_yes c.1 c.2]
    exact if_pos (Nat.lt_of_not_le fun z => h ⟨c.1, c.2, z⟩)
  · exact in_no c
theorem way_yes {n w : Nat} {v : List Int} {g : List Nat} {f : Folk → List Nat → Ks565.Ans} (c : okW n v) (d : okG n g) (hw : w ≤ 2) : Ks567.way n w v g f = f ⟨n, v⟩ (Ks565.tidy g) := by
  unfold Ks567.way
  rw [in_yes c d]
  exact if_neg (Nat.not_lt_of_le hw)
theorem ok_tidy {n : Nat} {v : List Int} {g : List Nat} (c : okW n v) (d : okG n g) : Ok ⟨n, v⟩ (Ks565.tidy g) := ⟨c.1, c.2.1, c.2.2.1, (tidy_length g).trans d.1⟩
theorem lt_tidy {n : Nat} {g : List Nat} (d : okG n g) : ∀ x ∈ Ks565.tidy g, x < n := fun _ hx => d.1 ▸ tidy_lt hx
end Mte
namespace Mte
open PySem PySem.Spec PyProof.Rows L2
theorem nv_toNat : ∀ {gs : List Int}, (∀ x ∈ gs, 0 ≤ x) → nv (gs.map Int.toNat) = gs.map V.int
  | [], _ => rfl
  | x :: r, h => by
    have e : ((x.toNat : Nat) : Int) = x := Int.toNat_of_nonneg (h x (List.mem_cons_self ..))
    have ih := nv_toNat (gs := r) fun y hy => h y (List.mem_cons_of_mem _ hy)
    show V.int ((x.toNat : Nat) : Int) :: nv (r.map Int.toNat) = V.int x :: r.map V.int
    rw [ih, e]
end Mte
/-! ### Ways to be in groups in memory: tuples, lists of tuples, dicts by tuples -/
namespace Mte
open PySem PySem.Spec PyProof.Rows L2
open Ks565 (Folk)
def key (g : List Nat) : List Key := g.map fun (x : Nat) => (Sum.inl (x : Int) : Key)
theorem key_nv (g : List Nat) : (key g).map kV = nv g := by
  unfold key nv
  rw [List.map_map]
  rfl
theorem key_inj : ∀ {a b : List Nat}, key a = key b → a = b
  | [], [], _ => rfl
  | [], _ :: _, h => by cases h
  | _ :: _, [], h => by cases h
  | x :: a, y :: b, h => by
    have h' : (Sum.inl (x : Int) : Key) :: key a = Sum.inl (y : Int) :: key b := h
    injection h' with h1 h2
    rw [Int.ofNat_inj.mp (Sum.inl.inj h1), key_inj h2]
/-- these are tuples of groups -/
inductive Tp (H : Hp) : List V → List (List Nat) → Prop
  | nil : Tp H [] []
  | cons {a : Addr} {g : List Nat} {vs : List V} {gs : List (List Nat)} : H a = some (.tup (nv g)) → Tp H vs gs → Tp H (.ref a :: vs) (g :: gs)
theorem Tp.keep {H H' : Hp} (k : ∀ a xs, H a = some (.tup xs) → H' a = some (.tup xs)) {vs : List V} {gs : List (List Nat)} (h : Tp H vs gs) : Tp H' vs gs := by
  induction h with
  | nil => exact .nil
  | cons e _ ih => exact .cons (k _ _ e) ih
theorem Tp.same {H H' : Hp} (s : Same H H') {vs : List V} {gs : List (List Nat)} (h : Tp H vs gs) : Tp H' vs gs := h.keep fun _ _ e => s _ _ e
theorem Tp.append {H : Hp} {vs us : List V} {gs hs : List (List Nat)} (h : Tp H vs gs) (k : Tp H us hs) : Tp H (vs ++ us) (gs ++ hs) := by
  induction h with
  | nil => exact k
  | cons e _ ih => exact .cons e ih
theorem Tp.snoc {H : Hp} {a : Addr} {g : List Nat} {vs : List V} {gs : List (List Nat)} (h : Tp H vs gs) (e : H a = some (.tup (nv g))) : Tp H (vs ++ [.ref a]) (gs ++ [g]) := h.append (.cons e .nil)
theorem Tp.len {H : Hp} {vs : List V} {gs : List (List Nat)} (h : Tp H vs gs) : vs.length = gs.length := by
  induction h with
  | nil => rfl
  | cons e _ ih => rw [List.length_cons, List.length_cons, ih]
theorem Tp.at {H : Hp} {vs : List V} {gs : List (List Nat)} (h : Tp H vs gs) : ∀ {i : Nat} {v : V}, vs[i]? = some v → ∃ a g, v = .ref a ∧ gs[i]? = some g ∧ H a = some (.tup (nv g)) := by
  induction h with
  | nil =>
    intro i v e
    simp at e
  | cons ha _ ih =>
    intro i v e
    cases i with
    | zero =>
      have e' := Option.some.inj e
      exact ⟨_, _, e'.symm, rfl, ha⟩
    | succ i => exact ih e
theorem Tp.last {H : Hp} {vs : List V} {gs : List (List Nat)} (h : Tp H vs gs) (hl : 0 < vs.length) : ∃ vs0 a gs0 g, vs = vs0 ++ [.ref a] ∧ gs = gs0 ++ [g] ∧ H a = some (.tup (nv g)) ∧ Tp H vs0 gs0 := by
  induction h with
  | nil => cases hl
  | @cons a g vs gs e t ih =>
    cases t with
    | nil => exact ⟨[], a, [], g, rfl, rfl, e, .nil⟩
    | @cons b k us hs e2 t2 =>
      obtain ⟨vs0, c, gs0, m, h1, h2, h3, h4⟩ := ih (Nat.zero_lt_succ _)
      exact ⟨.ref a :: vs0, c, g :: gs0, m, by rw [h1]; rfl, by rw [h2]; rfl, h3, .cons e h4⟩
theorem tup_keep {H : Hp} {l : Addr} {u : HO} (h : H l = some u) (n : ∀ xs, u ≠ .tup xs) (o : HO) : ∀ a xs, H a = some (.tup xs) → (upd H l o) a = some (.tup xs) := fun a xs e => (upd_ne (ne_of e h fun z => n xs z.symm)).trans e
/-- tuples stand as they stood, and lists but the one at b -/
structure Kq (b : Addr) (H H' : Hp) : Prop where
  lst : ∀ a xs, a ≠ b → H a = some (.lst xs) → H' a = some (.lst xs)
  tup : ∀ a xs, H a = some (.tup xs) → H' a = some (.tup xs)
theorem Kq.same {b : Addr} {H H' : Hp} (s : Same H H') : Kq b H H' := ⟨fun a _ _ e => s a _ e, fun a _ e => s a _ e⟩
theorem Kq.trans {b : Addr} {H H1 H2 : Hp} (k : Kq b H H1) (m : Kq b H1 H2) : Kq b H H2 := ⟨fun a xs n e => m.lst a xs n (k.lst a xs n e), fun a xs e => m.tup a xs (k.tup a xs e)⟩
theorem Kq.list {b : Addr} {H : Hp} {xs : List V} (h : H b = some (.lst xs)) (o : HO) : Kq b H (upd H b o) := ⟨fun _ _ n e => (upd_ne n).trans e, tup_keep h (fun _ z => by cases z) o⟩
theorem Kq.other {b d : Addr} {H : Hp} {u : HO} (h : H d = some u) (n1 : ∀ xs, u ≠ .lst xs) (n2 : ∀ xs, u ≠ .tup xs) (o : HO) : Kq b H (upd H d o) :=
  ⟨fun _ xs _ e => (upd_ne (ne_of e h fun z => n1 xs z.symm)).trans e, tup_keep h n2 o⟩
/-- the dict's pairs: of each way to be in groups a list of such, not the list at b -/
inductive En (H : Hp) (b : Addr) : List (List Key × V) → Gr → Prop
  | nil : En H b [] []
  | cons {g : List Nat} {xs : List (List Nat)} {l : Addr} {vs : List V} {kvs : List (List Key × V)} {G : Gr} : l ≠ b → H l = some (.lst vs) → Tp H vs xs → En H b kvs G → En H b ((key g, .ref l) :: kvs) ((g, xs) :: G)
theorem En.keep {H H' : Hp} {b : Addr} (k : Kq b H H') {kvs : List (List Key × V)} {G : Gr} (h : En H b kvs G) : En H' b kvs G := by
  induction h with
  | nil => exact .nil
  | cons n e t _ ih => exact .cons n (k.lst _ _ n e) (t.keep k.tup) ih
theorem En.rebase {H : Hp} {b c : Addr} (k : ∀ xs, H c ≠ some (.lst xs)) {kvs : List (List Key × V)} {G : Gr} (h : En H b kvs G) : En H c kvs G := by
  induction h with
  | nil => exact .nil
  | cons n e t _ ih => exact .cons (fun z => k _ (z ▸ e)) e t ih
theorem En.snoc {H : Hp} {b l : Addr} {g : List Nat} {xs : List (List Nat)} {vs : List V} (n : l ≠ b) (e : H l = some (.lst vs)) (t : Tp H vs xs) {kvs : List (List Key × V)} {G : Gr} (h : En H b kvs G) : En H b (kvs ++ [(key g, .ref l)]) (G ++ [(g, xs)]) := by
  induction h with
  | nil => exact .cons n e t .nil
  | cons n' e' t' _ ih => exact .cons n' e' t' ih
theorem En.len {H : Hp} {b : Addr} {kvs : List (List Key × V)} {G : Gr} (h : En H b kvs G) : kvs.length = G.length := by
  induction h with
  | nil => rfl
  | cons _ _ _ _ ih => rw [List.length_cons, List.length_cons, ih]
theorem En.at {H : Hp} {b : Addr} {kvs : List (List Key × V)} {G : Gr} (h : En H b kvs G) : ∀ {i : Nat} {k : List Key} {v : V}, kvs[i]? = some (k, v) → ∃ g xs, k = key g ∧ G[i]? = some (g, xs) := by
  induction h with
  | nil =>
    intro i k v e
    simp at e
  | cons _ _ _ _ ih =>
    intro i k v e
    cases i with
    | zero =>
      have e' := Option.some.inj e
      exact ⟨_, _, (congrArg Prod.fst e').symm, rfl⟩
    | succ i => exact ih e
theorem valV_cons {p : List Key × V} {r : List (List Key × V)} {k : List Key} (e : ¬ p.1 = k) : valV (p :: r) k = valV r k := by
  simp [valV, e]
theorem En.val_none {H : Hp} {b : Addr} {kvs : List (List Key × V)} {G : Gr} (h : En H b kvs G) {g : List Nat} : ¬ g ∈ keysOf G → valV kvs (key g) = none := by
  induction h with
  | nil => exact fun _ => rfl
  | @cons g' xs l vs kvs G n e t _ ih =>
    intro c
    have c' : ¬ g ∈ g' :: keysOf G := c
    rw [List.mem_cons, not_or] at c'
    rw [valV_cons (fun z => c'.1 (key_inj z).symm)]
    exact ih c'.2
theorem En.val_some {H : Hp} {b : Addr} {kvs : List (List Key × V)} {G : Gr} (h : En H b kvs G) {g : List Nat} : g ∈ keysOf G → (valV kvs (key g)).isSome = true := by
  induction h with
  | nil => exact fun c => (by cases c)
  | @cons g' xs l vs kvs G n e t _ ih =>
    intro c
    by_cases d : g' = g
    · rw [valV_pos (congrArg key d)]
      rfl
    · rw [valV_cons (fun z => d (key_inj z))]
      have c' : g ∈ g' :: keysOf G := c
      rcases List.mem_cons.mp c' with z | z
      · exact absurd z.symm d
      · exact ih z
theorem En.val_at {H : Hp} {b : Addr} {kvs : List (List Key × V)} {G : Gr} (h : En H b kvs G) {g : List Nat} {xs : List (List Nat)} : ∀ {i : Nat}, (keysOf G).Nodup → G[i]? = some (g, xs) → ∃ l vs, valV kvs (key g) = some (.ref l) ∧ l ≠ b ∧ H l = some (.lst vs) ∧ Tp H vs xs := by
  induction h with
  | nil =>
    intro i _ e
    simp at e
  | @cons g' xs' l vs kvs G n e t _ ih =>
    intro i nd hi
    have nd' : (g' :: keysOf G).Nodup := nd
    rw [List.nodup_cons] at nd'
    cases i with
    | zero =>
      have z := Option.some.inj hi
      obtain ⟨z1, z2⟩ := Prod.mk.inj z
      subst z1 z2
      exact ⟨l, vs, valV_pos rfl, n, e, t⟩
    | succ i =>
      have hi' : G[i]? = some (g, xs) := hi
      have m : g ∈ keysOf G := List.mem_map.mpr ⟨(g, xs), List.mem_of_getElem? hi', rfl⟩
      obtain ⟨l2, vs2, h1, h2⟩ := ih nd'.2 hi'
      refine ⟨l2, vs2, ?_, h2⟩
      have ne : ¬ key g' = key g := fun z => nd'.1 (by rw [key_inj z]; exact m)
      exact (valV_cons (p := (key g', V.ref l)) ne).trans h1
theorem dget_t {H : Hp} {a b : Addr} {kvs : List (List Key × V)} {g : List Nat} (e : H a = some (.dT kvs)) (eb : H b = some (.tup (nv g))) : DGet H a (.ref b) (valV kvs (key g)) := DGet.t e (by rw [key_nv]; exact eb)
theorem dget_f {H : Hp} {a b : Addr} {o : Obj} {kvs : List (List Key × V)} {g : List Nat} (e : H a = some (.frz o (.dT kvs))) (eb : H b = some (.tup (nv g))) : DGet H a (.ref b) (valV kvs (key g)) := .inr ⟨kvs, key g, b, .inr ⟨o, e⟩, rfl, by rw [key_nv]; exact eb, rfl⟩
theorem dput_t {H : Hp} {a b : Addr} {kvs : List (List Key × V)} {g : List Nat} {v : V} (e : H a = some (.dT kvs)) (eb : H b = some (.tup (nv g))) (hl : kvs.length < sizeLine) : DPut H a (.ref b) v (upd H a (.dT (putK kvs (key g) v))) := DPut.t e (by rw [key_nv]; exact eb) hl
theorem fresh_key {G : Gr} {j : Nat} {p : List Nat × List (List Nat)} (nd : (keysOf G).Nodup) (h : G[j]? = some p) : ¬ p.1 ∈ keysOf (G.take j) := by
  have e := take_more h
  have s : G.take (j + 1) ++ G.drop (j + 1) = G := List.take_append_drop ..
  have n2 : (keysOf (G.take j ++ [p])).Nodup := by
    rw [← s] at nd
    unfold keysOf at nd ⊢
    rw [List.map_append, List.nodup_append] at nd
    rw [← e]
    exact nd.1
  unfold keysOf at n2 ⊢
  rw [List.map_append, List.nodup_append] at n2
  exact fun z => n2.2.2 _ z p.1 (List.mem_singleton.mpr rfl) rfl
/-- len of a list or a tuple, in a block too -/
def rLenK (K : PySem.W.Frag) : List V → Hp → VK → Prop := fun xs H Q => ∃ p ys, xs = [.ref p] ∧ SqA K H p ys ∧ Q (.int ((ys.length : Nat) : Int)) H
theorem call_lenK {X : Cx} {K : PySem.W.Frag} (e : X.K = K) : CallR X (.builtin "len") (rLenK K) := by
  subst e
  exact call_len_seq
structure TxtA (mg : Str → Option Value) : Prop extends Txt mg where
  tuple : mg "tuple" = none
  any : mg "any" = none
end Mte
namespace Mte
open PySem PySem.Spec PyProof.Rows L2
open Ks565 (Folk)
abbrev sBeh : Stmt := top 17
/-- what comes of each move, tuple by tuple, in a new list -/
def spBeh (K : PySem.W.Frag) : Sp := fun vs H Q _ => ∃ (aw ag : Addr) (t : Folk) (g : List Nat) (w : Nat), vs = [.int t.n, .int w, .ref aw, .ref ag] ∧ SqL K H aw (t.v.map V.int) ∧ SqA K H ag (nv g) ∧ Ok t g ∧ w ≤ 2 ∧ (∀ x ∈ g, x < t.n) ∧
  ∀ (H' : Hp) (p : Addr) (us : List V), Same H H' → H p = none → H' p = some (.lst us) → Tp H' us (Ks567.next t w g) → Q (.ref p) H'
section
variable {P : Program} {w : World} {K : PySem.W.Frag} {mg : Str → Option Value} {base : Heap}
theorem scBeh : FnScope ["n", "w", "worth", "groups", "answer", "person", "number"] ["n", "w", "worth", "groups"] (defScope sBeh) := ⟨rfl, rfl, rfl, by decide +kernel, rfl, by decide +kernel, by decide +kernel⟩
theorem ok_beh (D : Dfx K mg "behind_one_move" sBeh ["n", "w", "worth", "groups"]) (T : TxtA mg) (CW : Cal P w K mg base 3 "where_one_may_go" ["n", "w", "worth", "groups", "person"] (spWhe K))
    (CM : Cal P w K mg base 2 "moved" ["groups", "person", "number"] (spMov K)) : Cal P w K mg base 4 "behind_one_move" ["n", "w", "worth", "groups"] (spBeh K) := by
  refine D.ok scBeh (fun vs H Q E h => ?_) (fun f cdv A outer s H vs Q E hr h => ?_)
  · obtain ⟨aw, ag, t, g, w', rfl, _⟩ := h
    rfl
  · obtain ⟨aw, ag, t, g, w', rfl, hW, hG, O, hw, hx, q⟩ := h
    have n1 := O.n1
    have n5 := O.n5
    have hr2 : Room 2 _ := hr.mono (by decide)
    refine ⟨_, pss_cons (ps_set (i := 4) scBeh.nd rfl (Or.inl rfl) (pe_lst pa_nil))
      (pss_cons (ps_for PassesOwn.never rfl (pi_range1 rfl T.range (pa_cons (pv 0) pa_nil)) (pg_name (i := 5) scBeh.nd rfl (Or.inl rfl))
        (pss_one (ps_for PassesOwn.never rfl (pi_list (pe_cal CW hr rfl (pa_cons (pv 0) (pa_cons (pv 1) (pa_cons (pv 2) (pa_cons (pv 3) (pa_cons (pv 5) pa_nil))))))) (pg_name (i := 6) scBeh.nd rfl (Or.inl rfl))
          (pss_one (ps_expr (pe_bm PySem.F.plainAttrs_list PySem.F.slot_list_append PySem.F.type_list_append mt_append (pv 4)
            (pa_cons (pe_callTy call_tuple_of (by rfl) T.tuple (by decide +kernel) (pa_cons (pe_cal CM hr2 rfl (pa_cons (pv 3) (pa_cons (pv 5) (pa_cons (pv 6) pa_nil)))) pa_nil)) pa_nil)))))))
      (pss_one (ps_ret (pv 4)))), ?_⟩
    refine ⟨Nat.zero_le _, fun l hl => ?_⟩
    refine ⟨_, rfl, (t.n : Int), rfl, by omega, by omega, for_range (lo := 0) (n := t.n) (fun j σ H' => ∃ (us : List V) (o1 o2 : Option V), σ = [some (.int t.n), some (.int w'), some (.ref aw), some (.ref ag), some (.ref l), o1, o2] ∧ Same H H' ∧ H' l = some (.lst us) ∧ Tp H' us (nextUp t w' g j))
      ⟨[], none, none, rfl, Same.new hl, upd_same, .nil⟩ ?_ ?_⟩
    · rintro j σ H' hj ⟨us, o1, o2, rfl, s1, h1, h2⟩
      rw [Int.zero_add]
      refine ⟨_, rfl, _, rfl, _, rfl, _, rfl, _, rfl, aw, ag, t, g, w', j, rfl, s1.seq hW, s1.any hG, O, hj, hw, hx, fun p hp => ⟨p, rfl, ⟨_, SqL.of upd_same⟩, ?_⟩⟩
      have lp : l ≠ p := ne_of_none h1 hp
      refine for_list (K := K) (a := p) (xs := nv (ks t w' g j)) (fun i σ H2 => ∃ (us : List V) (o2 : Option V), σ = [some (.int t.n), some (.int w'), some (.ref aw), some (.ref ag), some (.ref l), some (.int (j : Nat)), o2] ∧ Same H H2 ∧ H2 l = some (.lst us) ∧
          Tp H2 us (nextUp t w' g j ++ ((ks t w' g j).take i).map (Ks565.go g j)) ∧ H2 p = some (.lst (nv (ks t w' g j))))
        ⟨us, o2, rfl, s1.trans (Same.new hp), (upd_ne lp).trans h1, ?_, upd_same⟩ (fun i σ H2 _ z => ?_) ?_ ?_
      · rw [List.take_zero, List.map_nil, List.append_nil]
        exact h2.same (Same.new hp)
      · obtain ⟨_, _, _, _, _, _, z⟩ := z
        exact SqL.of z
      · rintro i y σ H2 hi ⟨us2, o2, rfl, s2, k1, k2, k3⟩
        obtain ⟨k, hk, rfl⟩ := of_map_at hi
        have tk := take_more hk
        refine ⟨_, rfl, .inl ⟨rfl, _, SqL.of k1⟩, _, rfl, _, rfl, _, rfl, ag, g, j, k, rfl, s2.any hG, by rw [O.hg]; omega, by rw [O.hg]; exact hj, fun H3 p3 s3 np3 e3 => ?_⟩
        refine ⟨p3, _, rfl, .inl ⟨SqL.of e3, fun p4 np4 => ?_⟩⟩
        have k13 := s3 _ _ k1
        have k14 : ∀ o, (upd H3 p4 o) l = some (.lst us2) := fun o => (upd_ne (ne_of_none k13 np4)).trans k13
        have pl : p ≠ p4 := ne_of_none (s3 _ _ k3) np4
        refine ⟨l, _, _, rfl, rfl, k14 _, small1000 ?_, ?_⟩
        · rw [k2.len, List.length_append, List.length_map]
          have a1 := nextUp_len t w' hx n1 j
          have a2 : j * (t.n + 1) ≤ 5 * 6 := Nat.mul_le_mul (by omega) (by omega)
          have a3 := ks_len t w' g j
          have a4 := groups_le hx n1
          have a5 : ((ks t w' g j).take i).length ≤ (ks t w' g j).length := by rw [List.length_take]; exact Nat.min_le_right _ _
          omega
        · refine ⟨us2 ++ [.ref p4], _, rfl, ((s2.trans s3).trans (Same.new np4)).newer hl, upd_same, ?_, ?_⟩
          · rw [tk, List.map_append, ← List.append_assoc]
            exact (((k2.same s3).same (Same.new np4)).snoc upd_same).keep (tup_keep (k14 _) (fun _ z => by cases z) _)
          · rw [upd_ne lp.symm, upd_ne pl]
            exact s3 _ _ k3
      · rintro σ H2 ⟨us2, o2, rfl, s2, k1, k2, k3⟩
        refine ⟨us2, _, _, rfl, s2, k1, ?_⟩
        rw [nv_len, List.take_length] at k2
        rw [nextUp_more]
        exact k2
    · rintro σ H' ⟨us, o1, o2, rfl, s1, h1, h2⟩
      refine ⟨_, rfl, q H' l us s1 hl h1 ?_⟩
      rw [← nextUp_all]
      exact h2
end
end Mte
namespace Mte
open PySem PySem.Spec PyProof.Rows L2
open Ks565 (Folk)
abbrev sWay : Stmt := top 18
/-- all that may be come to, with what comes of each move from there -/
def fromAll (t : Folk) (w : Nat) (dn : List (List Nat)) : Gr := dn.map fun x => (x, Ks567.next t w x)
theorem fromAll_more (t : Folk) (w : Nat) (dn : List (List Nat)) (x : List Nat) : fromAll t w (dn ++ [x]) = fromAll t w dn ++ [(x, Ks567.next t w x)] := by
  unfold fromAll
  rw [List.map_append]
  rfl
theorem fromAll_keys (t : Folk) (w : Nat) (dn : List (List Nat)) : keysOf (fromAll t w dn) = dn := by
  unfold fromAll keysOf
  rw [List.map_map]
  exact List.map_id _
def spWay (K : PySem.W.Frag) : Sp := fun vs H Q _ => ∃ (aw ag : Addr) (t : Folk) (g : List Nat) (w : Nat), vs = [.int t.n, .int w, .ref aw, .ref ag] ∧ SqL K H aw (t.v.map V.int) ∧ SqL K H ag (nv g) ∧ Ok t g ∧ w ≤ 2 ∧ Tid t.n g ∧
  ∀ (H' : Hp) (d b : Addr) (kvs : List (List Key × V)) (dn : List (List Nat)), Same H H' → H' d = some (.dT kvs) → En H' b kvs (fromAll t w dn) → dn.Nodup → (∀ x, x ∈ dn ↔ Come t w g x) → Q (.ref d) H'
section
variable {P : Program} {w : World} {K : PySem.W.Frag} {mg : Str → Option Value} {base : Heap}
theorem scWay : FnScope ["n", "w", "worth", "groups", "onward", "waiting", "now"] ["n", "w", "worth", "groups"] (defScope sWay) := ⟨rfl, rfl, rfl, by decide +kernel, rfl, by decide +kernel, by decide +kernel⟩
theorem ok_way (D : Dfx K mg "ways_come_to" sWay ["n", "w", "worth", "groups"]) (T : TxtA mg) (CB : Cal P w K mg base 4 "behind_one_move" ["n", "w", "worth", "groups"] (spBeh K)) : Cal P w K mg base 5 "ways_come_to" ["n", "w", "worth", "groups"] (spWay K) := by
  refine D.ok scWay (fun vs H Q E h => ?_) (fun f cdv A outer s H vs Q E hr h => ?_)
  · obtain ⟨aw, ag, t, g, w', rfl, _⟩ := h
    rfl
  · obtain ⟨aw, ag, t, g, w', rfl, hW, hG, O, hw, hg, q⟩ := h
    have n1 := O.n1
    have n5 := O.n5
    have hu := hu_of hr
    refine ⟨_, pss_cons (ps_set (i := 4) scWay.nd rfl (Or.inl rfl) pe_dnewT)
      (pss_cons (ps_set (i := 5) scWay.nd rfl (Or.inl rfl) (pe_lst (pa_cons (pe_callTy call_tuple_of (by rfl) T.tuple (by decide +kernel) (pa_cons (pv 3) pa_nil)) pa_nil)))
      (pss_cons (ps_while PassesOwn.never (pt_cmpR op_gt (pe_callB call_len_seq (by rfl) T.len PySem.boot_len (pa_cons (pv 5) pa_nil)) pe_int (nomark _))
        (pss_cons (ps_set (i := 6) scWay.nd rfl (Or.inl rfl) (pe_bm0 PySem.F.plainAttrs_list PySem.F.slot_list_pop PySem.F.type_list_pop mt_pop (pv 5)))
        (pss_one (ps_if (pt_cmp (pc_dnotin hu (pv 6) (pv 4)))
          (pss_cons (ps_dput hu (pv 4) (pv 6) (pe_cal CB hr rfl (pa_cons (pv 0) (pa_cons (pv 1) (pa_cons (pv 2) (pa_cons (pv 6) pa_nil))))) rfl)
          (pss_one (ps_expr (pe_bm PySem.F.plainAttrs_list PySem.F.slot_list_extend PySem.F.type_list_extend mt_extend (pv 5) (pa_cons (pe_dget hu (pv 4) (pv 6) (fun _ _ => rfl)) pa_nil))))) pss_nil))))
      (pss_one (ps_ret (pv 4))))), ?_⟩
    intro d hd
    refine ⟨_, rfl, ag, _, rfl, .inl ⟨(Same.new hd).seq hG, fun p1 np1 => ⟨(by show 1 ≤ sizeLine; decide), fun pw npw => ?_⟩⟩⟩
    have np1' : H p1 = none := (Same.new hd).free np1
    have sA : ∀ o, Same H (upd (upd H d (.dT [])) p1 o) := fun o => (Same.new hd).newer np1'
    have hpw : H pw = none := (sA _).free npw
    have ndw : d ≠ pw := ne_of_none ((upd_ne (ne_of_none upd_same np1)).trans upd_same) npw
    have n1w : p1 ≠ pw := ne_of_none upd_same npw
    refine ⟨fun m σ H' => ∃ (dn wt : List (List Nat)) (kvs : List (List Key × V)) (us : List V) (o : Option V), m = (52 - dn.length) * 40 + wt.length ∧ σ = [some (.int t.n), some (.int w'), some (.ref aw), some (.ref ag), some (.ref d), some (.ref pw), o] ∧ Same H H' ∧
        H' d = some (.dT kvs) ∧ H' pw = some (.lst us) ∧ En H' pw kvs (fromAll t w' dn) ∧ Tp H' us wt ∧ WI t w' g dn wt,
      ⟨_, [], [g], [], [.ref p1], none, rfl, rfl, (sA _).newer hpw, ?_, upd_same, .nil, .cons ?_ .nil, WI.start t w' g⟩, ?_⟩
    · rw [upd_ne ndw, upd_ne (ne_of_none upd_same np1), upd_same]
    · rw [upd_ne n1w, upd_same]
    rintro m σ H' ⟨dn, wt, kvs, us, o, rfl, rfl, s1, h1, h2, en, tp, W⟩
    refine ⟨_, rfl, pw, _, rfl, .inl (SqL.of h2), _, _, rfl, rfl, _, rfl, ?_⟩
    by_cases c : (0 : Int) < ((us.length : Nat) : Int)
    · refine if_t c ⟨_, fun _ _ z => z, ?_⟩
      obtain ⟨us0, a, wt0, x, rfl, rfl, ha, tp0⟩ := tp.last (by omega)
      have lst : (us0 ++ [V.ref a])[(us0 ++ [V.ref a]).length - 1]? = some (V.ref a) := by simp
      refine ⟨_, rfl, .inl ⟨rfl, _, SqL.of h2⟩, pw, _, _, rfl, rfl, h2, lst, ?_⟩
      rw [List.dropLast_concat]
      have ndp : d ≠ pw := ndw
      have q1 : (upd H' pw (.lst us0)) d = some (.dT kvs) := (upd_ne ndp).trans h1
      have q2 : (upd H' pw (.lst us0)) pw = some (.lst us0) := upd_same
      have qa : (upd H' pw (.lst us0)) a = some (.tup (nv x)) := tup_keep h2 (fun _ z => by cases z) _ _ _ ha
      have k1 : Kq pw H' (upd H' pw (.lst us0)) := Kq.list h2 _
      have s2 : Same H (upd H' pw (.lst us0)) := s1.newer hpw
      have tp1 : Tp (upd H' pw (.lst us0)) us0 wt0 := tp0.keep k1.tup
      have en1 := en.keep k1
      generalize hH1 : upd H' pw (.lst us0) = H1 at q1 q2 qa s2 tp1 en1 ⊢
      refine ⟨_, rfl, _, rfl, d, _, rfl, dget_t q1 qa, _, rfl, ?_⟩
      by_cases e : x ∈ dn
      · have v := en1.val_some (g := x) (by rw [fromAll_keys]; exact e)
        rw [v]
        refine iteF ⟨(52 - dn.length) * 40 + wt0.length, ?_, dn, wt0, kvs, us0, _, rfl, rfl, s2, q1, q2, en1, tp1, W.old e⟩
        rw [List.length_append]
        show (52 - dn.length) * 40 + wt0.length < (52 - dn.length) * 40 + (wt0.length + 1)
        omega
      · have v := en1.val_none (g := x) (by rw [fromAll_keys]; exact e)
        rw [v]
        refine iteT ?_
        have cx := W.cw x (List.mem_append_right _ (List.mem_singleton.mpr rfl))
        have tx := cx.tid hg
        have Ox : Ok t x := ⟨O.n1, O.n5, O.hv, tx.len⟩
        have f52 := W.few n5 hg cx e
        have kl : kvs.length < 52 := by
          rw [en1.len]
          unfold fromAll
          rw [List.length_map]
          exact f52
        refine ⟨_, rfl, _, rfl, _, rfl, _, rfl, aw, a, t, x, w', rfl, s2.seq hW, .inr (SqT.of qa), Ox, hw, tx.lt, fun H2 p2 us2 s3 np2 e2 t2 => ?_⟩
        have r1 := s3 _ _ q1
        have r2 := s3 _ _ q2
        have ra := s3 _ _ qa
        refine ⟨_, rfl, _, rfl, d, _, rfl, dput_t r1 ra (small1000 (by omega)), ?_⟩
        rw [putK_new _ v]
        have n2w : p2 ≠ pw := fun z => by
          rw [z, q2] at np2
          cases np2
        have k2 : Kq pw H2 (upd H2 d (.dT (kvs ++ [(key x, .ref p2)]))) := Kq.other r1 (fun _ z => by cases z) (fun _ z => by cases z) _
        have u1 : (upd H2 d (.dT (kvs ++ [(key x, .ref p2)]))) d = some (.dT (kvs ++ [(key x, .ref p2)])) := upd_same
        have u2 : (upd H2 d (.dT (kvs ++ [(key x, .ref p2)]))) pw = some (.lst us0) := (upd_ne ndw.symm).trans r2
        have ua := k2.tup _ _ ra
        have u3 := k2.lst _ _ n2w e2
        have s4 : Same H (upd H2 d (.dT (kvs ++ [(key x, .ref p2)]))) := (s2.trans s3).newer hd
        have k12 : Kq pw H1 (upd H2 d (.dT (kvs ++ [(key x, .ref p2)]))) := (Kq.same s3).trans k2
        have t3 := t2.keep k2.tup
        have tp3 := tp1.keep k12.tup
        have en3 := en1.keep k12
        generalize upd H2 d (.dT (kvs ++ [(key x, .ref p2)])) = H3 at u1 u2 ua u3 s4 t3 tp3 en3 ⊢
        have gv : valV (kvs ++ [(key x, V.ref p2)]) (key x) = some (.ref p2) := by
          rw [← putK_new _ v, valV_put, if_pos rfl]
        have nl := next_len (w := w') n1 n5 tx.lt
        have sz := W.sz
        rw [List.length_append] at sz
        refine ⟨_, rfl, .inl ⟨rfl, _, SqL.of u2⟩, _, rfl, _, rfl, d, _, rfl, (by have z := dget_t u1 ua; rw [gv] at z; exact z), pw, p2, _, _, rfl, rfl, u2, u3, ?_, ?_⟩
        · rw [tp3.len, t3.len, sizeLine_eq]
          omega
        have k4 : Kq pw H3 (upd H3 pw (.lst (us0 ++ us2))) := Kq.list u2 _
        refine ⟨(52 - (dn ++ [x]).length) * 40 + (wt0 ++ Ks567.next t w' x).length, W.less n1 n5 hg e, dn ++ [x], wt0 ++ Ks567.next t w' x, kvs ++ [(key x, .ref p2)], us0 ++ us2, _, rfl, rfl, s4.newer hpw, (upd_ne ndw).trans u1, upd_same, ?_,
          (tp3.append t3).keep k4.tup, W.new n1 n5 hg e⟩
        rw [fromAll_more]
        exact (en3.snoc n2w u3 t3).keep k4
    · refine if_f c ⟨_, rfl, ?_⟩
      have wl : wt.length = 0 := by
        rw [← tp.len]
        omega
      have we : wt = [] := List.length_eq_zero_iff.mp wl
      subst we
      exact q H' d pw kvs dn s1 h1 en W.nd W.done
end
end Mte
namespace Mte
open PySem PySem.Spec PyProof.Rows L2
open Ks565 (Folk)
abbrev sRes : Stmt := top 19
def spRes (_K : PySem.W.Frag) : Sp := fun vs H Q _ => ∃ (d b : Addr) (kvs : List (List Key × V)) (G : Gr), vs = [.ref d] ∧ H d = some (.dT kvs) ∧ En H b kvs G ∧ (keysOf G).Nodup ∧ G.length ≤ 900 ∧ ∀ H', Same H H' → Q (.bl (restsIn G)) H'
theorem len_dec (n : Nat) : decide (V.int ((n : Nat) : Int) = V.int 0) = decide (n = 0) := by
  by_cases c : n = 0
  · subst c
    rfl
  · rw [decide_eq_false c]
    exact decide_eq_false fun z => c (Int.ofNat_inj.mp (V.int.inj z))
/-- a dict that was locked meanwhile is as it was -/
theorem same_unlock {H H' : Hp} {d : Addr} {u o : HO} (hd : H d = some u) (s : Same (upd H d o) H') : Same H (upd H' d u) := fun b v e => by
  by_cases c : b = d
  · subst c
    rw [hd] at e
    rw [upd_same]
    exact e
  · rw [upd_ne c]
    exact s _ _ ((upd_ne c).trans e)
section
variable {P : Program} {w : World} {K : PySem.W.Frag} {mg : Str → Option Value} {base : Heap}
theorem scRes : FnScope ["onward", "now"] ["onward"] (defScope sRes) := ⟨rfl, rfl, rfl, by decide +kernel, rfl, by decide +kernel, by decide +kernel⟩
theorem ok_res (D : Dfx K mg "one_is_at_rest" sRes ["onward"]) (T : TxtA mg) : Cal P w K mg base 1 "one_is_at_rest" ["onward"] (spRes K) := by
  refine D.ok scRes (fun vs H Q E h => ?_) (fun f cdv A outer s H vs Q E hr h => ?_)
  · obtain ⟨d, b, kvs, G, rfl, _⟩ := h
    rfl
  · obtain ⟨d, b, kvs, G, rfl, hd, en, nd, g9, q⟩ := h
    have hu := hu_of hr
    refine ⟨_, pss_one (ps_ret (pe_callB (cr_any rfl) (by rfl) T.any (by decide +kernel) (pa_cons (pe_lock (pe_lc (own := [("now", 1)]) (g := gName 1) (tt := tYes) rfl scRes.nd (pi_keys (pv 0))
        (blkOk_by (own := [("now", 1)]) (N := ["onward", "now"]) (sc := defScope sRes) (by decide +kernel)) (fun _ _ _ _ _ => pg_name (i := 1) scRes.nd rfl (Or.inl rfl)) (fun _ _ _ _ _ => pts_nil)
        (fun _ _ _ _ _ => pe_cmpR op_eq (pe_callB (call_lenK (K := K) rfl) (by rfl) T.len PySem.boot_len (pa_cons (pe_dget hu (pv 0) (pv 1) (fun _ _ => rfl)) pa_nil)) pe_int (nomark _)))) pa_nil))), ?_⟩
    refine ⟨d, .dT kvs, hd, True.intro, fun od => ⟨_, rfl, d, od, rfl, .inr ⟨kvs, upd_same, fun D hD => ?_⟩⟩⟩
    have k0 : Kq b H (upd H d (.frz od (.dT kvs))) := Kq.other hd (fun _ z => by cases z) (fun _ z => by cases z) _
    have nDd : d ≠ D := ne_of_none upd_same hD
    refine lc_it (walk_keysT (o := od) (kvs := kvs)) (fun j H' => Same (upd H d (.frz od (.dT kvs))) H' ∧ H' D = some (.lst (((G.take j).map fun p => decide (p.2.length = 0)).map V.bl)))
      ⟨Same.new hD, upd_same⟩ (fun j H' _ z => z.1 _ _ upd_same) ?_ ?_
    · rintro j x H' H2 hj ⟨s1, h1⟩ ⟨rfl, k, v, qa, hk, rfl, hq⟩
      have en1 := en.keep (k0.trans (Kq.same s1))
      obtain ⟨g, xs, rfl, hgj⟩ := en1.at hk
      obtain ⟨l, us, gv, _, hl, tp⟩ := en1.val_at nd hgj
      rw [key_nv] at hq
      have tk := take_more hgj
      have jl : (((G.take j).map fun p => decide (p.2.length = 0)).map V.bl).length < sizeLine := small1000 (by
        rw [List.length_map, List.length_map, List.length_take]
        omega)
      refine ⟨rfl, ?_⟩
      unfold tYes
      refine iteT ⟨_, rfl, _, rfl, d, _, rfl, (by have z := dget_f (s1 _ _ upd_same) hq; rw [gv] at z; exact z), l, _, rfl, .inl (SqL.of hl), rfl, _, h1, jl, s1.newer hD, ?_⟩
      rw [upd_same, tk, List.map_append, List.map_append, len_dec, tp.len]
      rfl
    · rintro H' ⟨s1, h1⟩
      refine ⟨s1 _ _ upd_same, D, _, rfl, SqL.of ((upd_ne nDd.symm).trans h1), ?_⟩
      rw [en.len, List.take_length]
      exact q _ (same_unlock hd s1)
end
end Mte
namespace Mte
open PySem PySem.Spec PyProof.Rows L2
open Ks565 (Folk)
abbrev sTha : Stmt := top 20
def spTha (_K : PySem.W.Frag) : Sp := fun vs H Q _ => ∃ (d b : Addr) (kvs : List (List Key × V)) (G : Gr), vs = [.ref d] ∧ H d = some (.dT kvs) ∧ En H b kvs G ∧ (keysOf G).Nodup ∧ G.length ≤ 900 ∧ (∀ p ∈ G, p.2.length ≤ 900) ∧
  ∀ (H' : Hp) (d' : Addr) (kvs' : List (List Key × V)), Same H H' → H' d' = some (.dT kvs') → En H' d' kvs' (leadOn G) → Q (.ref d') H'
theorem kept_len (ks xs : List (List Nat)) : (kept ks xs).length ≤ xs.length := List.length_filter_le _ _
section
variable {P : Program} {w : World} {K : PySem.W.Frag} {mg : Str → Option Value} {base : Heap}
theorem scTha : FnScope ["onward", "answer", "now", "kept", "then"] ["onward"] (defScope sTha) := ⟨rfl, rfl, rfl, by decide +kernel, rfl, by decide +kernel, by decide +kernel⟩
theorem ok_tha (D : Dfx K mg "that_lead_on" sTha ["onward"]) (T : TxtA mg) : Cal P w K mg base 1 "that_lead_on" ["onward"] (spTha K) := by
  refine D.ok scTha (fun vs H Q E h => ?_) (fun f cdv A outer s H vs Q E hr h => ?_)
  · obtain ⟨d, b, kvs, G, rfl, _⟩ := h
    rfl
  · obtain ⟨d, b, kvs, G, rfl, hd, en, nd, g9, x9, q⟩ := h
    have hu := hu_of hr
    refine ⟨_, pss_cons (ps_set (i := 1) scTha.nd rfl (Or.inl rfl) pe_dnewT)
      (pss_cons (ps_lock (ps_for PassesOwn.never rfl (pi_keys (pv 0)) (pg_name (i := 2) scTha.nd rfl (Or.inl rfl))
        (pss_cons (ps_setLc (i := 3) (own := [("then", 4)]) (g := gName 4) rfl scTha.nd rfl rfl (sw_true rfl rfl rfl (by decide +kernel)) (pi_list (pe_dget hu (pv 0) (pv 2) (fun _ _ => rfl)))
          (blkOk_by (own := [("then", 4)]) (N := ["onward", "answer", "now", "kept", "then"]) (sc := defScope sTha) (by decide +kernel)) (fun _ _ _ _ _ => pg_name (i := 4) scTha.nd rfl (Or.inl rfl))
          (fun _ _ _ _ _ => pts_one (pt_cmp (pc_din hu (pv 4) (pv 0)))) (fun _ _ _ _ _ => pv 4))
        (pss_one (ps_if (pt_cmpR op_gt (pe_callB call_len_seq (by rfl) T.len PySem.boot_len (pa_cons (pv 3) pa_nil)) pe_int (nomark _))
          (pss_one (ps_dput hu (pv 1) (pv 2) (pv 3) rfl)) pss_nil)))))
      (pss_one (ps_ret (pv 1)))), ?_⟩
    intro pa hpa
    have ndp : d ≠ pa := ne_of_none hd hpa
    refine ⟨d, .dT kvs, (upd_ne ndp).trans hd, True.intro, fun od => ⟨_, rfl, d, od, rfl, .inr ⟨kvs, upd_same, ?_⟩⟩⟩
    have k0 : Kq b H (upd H d (.frz od (.dT kvs))) := Kq.other hd (fun _ z => by cases z) (fun _ z => by cases z) _
    have hpl : (upd H d (.frz od (.dT kvs))) pa = none := (upd_ne ndp.symm).trans hpa
    have sl : Same (upd H d (.frz od (.dT kvs))) (upd (upd H pa (.dT [])) d (.frz od (.dT kvs))) := fun a o e => by
      by_cases c : a = d
      · subst c
        rw [upd_same] at e ⊢
        exact e
      · rw [upd_ne c] at e ⊢
        rw [upd_ne (ne_of_none e hpa)]
        exact e
    refine for_it (walk_keysT (o := od) (kvs := kvs)) (fun j σ H' => ∃ (kvs' : List (List Key × V)) (o2 o3 : Option V), σ = [some (.ref d), some (.ref pa), o2, o3, none] ∧ Same (upd H d (.frz od (.dT kvs))) H' ∧ H' pa = some (.dT kvs') ∧ En H' pa kvs' ((G.take j).filterMap (leadOne (keysOf G))))
      ⟨[], none, none, rfl, sl, (upd_ne ndp.symm).trans upd_same, .nil⟩ (fun j σ H' _ ⟨_, _, _, _, s1, _⟩ => s1 _ _ upd_same) ?_ ?_
    · rintro j x σ H1 H' hj ⟨kvs', o2, o3, rfl, s1, h1, en'⟩ ⟨rfl, k, v, qa, hk, rfl, hq⟩
      have hd1 := s1 d _ upd_same
      have en1 := en.keep (k0.trans (Kq.same s1))
      obtain ⟨g, xs, rfl, hgj⟩ := en1.at hk
      obtain ⟨l, us, gv, _, hl, tp⟩ := en1.val_at nd hgj
      rw [key_nv] at hq
      have tk := take_more hgj
      have xl : xs.length ≤ 900 := x9 _ (List.mem_of_getElem? hgj)
      refine ⟨_, rfl, _, rfl, d, _, rfl, (by have z := dget_f hd1 hq; rw [gv] at z; exact z), l, rfl, ⟨_, SqL.of hl⟩, fun D hD => ?_⟩
      refine lc_list (K := K) (a := l) (xs := us) (fun i H2 => Same H' H2 ∧ ∃ ws, H2 D = some (.lst ws) ∧ Tp H2 ws (kept (keysOf G) (xs.take i))) ⟨Same.new hD, [], upd_same, .nil⟩ (fun i H2 _ z => SqL.of (z.1 _ _ hl)) ?_ ?_
      · rintro i y H2 hi ⟨s2, ws, h2, t2⟩
        obtain ⟨a, z, rfl, hz, ha⟩ := tp.at hi
        have tz := take_more hz
        refine ⟨rfl, _, rfl, _, rfl, d, _, rfl, dget_f (s2 _ _ hd1) (s2 _ _ ha), _, rfl, ?_⟩
        by_cases c : z ∈ keysOf G
        · rw [en1.val_some c]
          refine iteT ⟨_, rfl, _, h2, small1000 ?_, s2.newer hD, ws ++ [.ref a], upd_same, ?_⟩
          · rw [t2.len]
            have e1 := kept_len (keysOf G) (xs.take i)
            rw [List.length_take] at e1
            omega
          · rw [tz, kept_snoc_in c]
            exact (t2.snoc (s2 _ _ ha)).keep (tup_keep h2 (fun _ z => by cases z) _)
        · rw [en1.val_none c]
          refine iteF ⟨s2, ws, h2, ?_⟩
          rw [tz, kept_snoc_out c]
          exact t2
      · rintro H2 ⟨s2, ws, h2, t2⟩
        have ul : us.length = xs.length := tp.len
        rw [ul, List.take_length] at t2
        have nDp : D ≠ pa := fun z => by
          rw [z, h1] at hD
          cases hD
        refine ⟨_, rfl, D, _, rfl, .inl (SqL.of h2), _, _, rfl, rfl, _, rfl, ?_⟩
        by_cases c : (0 : Int) < ((ws.length : Nat) : Int)
        · refine if_t c ?_
          have c' : 0 < (kept (keysOf G) (g, xs).2).length := by
            show 0 < (kept (keysOf G) xs).length
            rw [← t2.len]
            omega
          have hp2 := s2 _ _ h1
          have en2 := en'.keep (Kq.same s2)
          have kf : kvs'.length < sizeLine := small1000 (by
            have e1 := (fm_keys (keysOf G) (G.take j)).2.2.1
            rw [List.length_take] at e1
            rw [en'.len]
            omega)
          have fr : valV kvs' (key g) = none := en'.val_none fun z => fresh_key nd hgj ((fm_keys (keysOf G) (G.take j)).1 _ z)
          refine ⟨_, rfl, _, rfl, _, rfl, pa, _, rfl, dput_t hp2 (s2 _ _ hq) kf, ?_⟩
          rw [putK_new _ fr]
          have k3 : Kq pa H2 (upd H2 pa (.dT (kvs' ++ [(key g, .ref D)]))) := Kq.other hp2 (fun _ z => by cases z) (fun _ z => by cases z) _
          refine ⟨kvs' ++ [(key g, .ref D)], _, _, rfl, (s1.trans s2).newer hpl, upd_same, ?_⟩
          rw [tk, lead_yes c']
          exact (en2.snoc nDp h2 t2).keep k3
        · have c' : ¬ 0 < (kept (keysOf G) (g, xs).2).length := by
            show ¬ 0 < (kept (keysOf G) xs).length
            rw [← t2.len]
            omega
          refine if_f c ⟨kvs', _, _, rfl, s1.trans s2, s2 _ _ h1, ?_⟩
          rw [tk, lead_no c']
          exact en'.keep (Kq.same s2)
    · rintro σ H' ⟨kvs', o2, o3, rfl, s1, h1, en'⟩
      have hd1 := s1 d _ upd_same
      refine ⟨hd1, _, rfl, q _ pa kvs' (same_unlock hd s1) ((upd_ne ndp.symm).trans h1) ?_⟩
      rw [en.len, List.take_length] at en'
      exact en'.keep (Kq.other hd1 (fun _ z => by cases z) (fun _ z => by cases z) _)
end
end Mte
namespace Mte
open PySem PySem.Spec PyProof.Rows L2
open Ks565 (Folk)
abbrev sRou : Stmt := top 21
def spRou (_K : PySem.W.Frag) : Sp := fun vs H Q _ => ∃ (d b : Addr) (kvs : List (List Key × V)) (G : Gr) (t : Folk) (w : Nat) (g : List Nat), vs = [.ref d] ∧ H d = some (.dT kvs) ∧ En H b kvs G ∧ (keysOf G).Nodup ∧ G.length ≤ 900 ∧ (∀ p ∈ G, p.2.length ≤ 900) ∧
  LG t w g G ∧ t.n ≤ 5 ∧ Tid t.n g ∧ ∀ H', Same H H' → Q (.bl (Ks567.round t w g)) H'
theorem lead_small {G : Gr} (x9 : ∀ p ∈ G, p.2.length ≤ 900) : ∀ p ∈ leadOn G, p.2.length ≤ 900 := fun p hp => by
  obtain ⟨q, hq, _, rfl⟩ := lead_mem.mp hp
  exact Nat.le_trans (kept_len _ _) (x9 q hq)
section
variable {P : Program} {w : World} {K : PySem.W.Frag} {mg : Str → Option Value} {base : Heap}
theorem scRou : FnScope ["onward", "left", "fewer"] ["onward"] (defScope sRou) := ⟨rfl, rfl, rfl, by decide +kernel, rfl, by decide +kernel, by decide +kernel⟩
theorem ok_rou (D : Dfx K mg "may_go_round" sRou ["onward"]) (T : TxtA mg) (CT : Cal P w K mg base 1 "that_lead_on" ["onward"] (spTha K)) : Cal P w K mg base 2 "may_go_round" ["onward"] (spRou K) := by
  refine D.ok scRou (fun vs H Q E h => ?_) (fun f cdv A outer s H vs Q E hr h => ?_)
  · obtain ⟨d, b, kvs, G, t, w', g, rfl, _⟩ := h
    rfl
  · obtain ⟨d, b, kvs, G, t, w', g, rfl, hd, en, nd, g9, x9, L, n5, hg, q⟩ := h
    refine ⟨_, pss_cons (ps_set (i := 1) scRou.nd rfl (Or.inl rfl) (pv 0))
      (pss_cons (ps_set (i := 2) scRou.nd rfl (Or.inl rfl) (pe_cal CT hr rfl (pa_cons (pv 1) pa_nil)))
      (pss_cons (ps_while PassesOwn.never (pt_cmpR op_lt (pe_callB call_len_dT (by rfl) T.len PySem.boot_len (pa_cons (pv 2) pa_nil)) (pe_callB call_len_dT (by rfl) T.len PySem.boot_len (pa_cons (pv 1) pa_nil)) (nomark _))
        (pss_cons (ps_set (i := 1) scRou.nd rfl (Or.inl rfl) (pv 2)) (pss_one (ps_set (i := 2) scRou.nd rfl (Or.inl rfl) (pe_cal CT hr rfl (pa_cons (pv 1) pa_nil))))))
      (pss_one (ps_ret (pe_cmpR op_gt (pe_callB call_len_dT (by rfl) T.len PySem.boot_len (pa_cons (pv 1) pa_nil)) pe_int (nomark _)))))), ?_⟩
    refine ⟨_, rfl, _, rfl, d, b, kvs, G, rfl, hd, en, nd, g9, x9, fun H1 d1 kv1 s1 h1 en1 => ?_⟩
    refine ⟨fun m σ H' => ∃ (l f b1 b2 : Addr) (kl kf : List (List Key × V)) (G : Gr), m = G.length ∧ σ = [some (.ref d), some (.ref l), some (.ref f)] ∧ Same H H' ∧ H' l = some (.dT kl) ∧ En H' b1 kl G ∧ H' f = some (.dT kf) ∧ En H' b2 kf (leadOn G) ∧
        (keysOf G).Nodup ∧ G.length ≤ 900 ∧ (∀ p ∈ G, p.2.length ≤ 900) ∧ LG t w' g G,
      ⟨_, d, d1, b, d1, kvs, kv1, G, rfl, rfl, s1, s1 _ _ hd, en.keep (Kq.same s1), h1, en1, nd, g9, x9, L⟩, ?_⟩
    rintro m σ H' ⟨l, f, b1, b2, kl, kf, G, rfl, rfl, s2, hl, el, hf, ef, nd, g9, x9, L⟩
    refine ⟨_, rfl, f, _, rfl, hf, _, rfl, l, _, rfl, hl, _, _, rfl, rfl, _, rfl, ?_⟩
    have lf : kf.length = (leadOn G).length := ef.len
    have ll : kl.length = G.length := el.len
    by_cases c : ((kf.length : Nat) : Int) < ((kl.length : Nat) : Int)
    · refine if_t c ⟨_, fun _ _ z => z, ?_⟩
      have fk := fm_keys (keysOf G) G
      have nd2 : (keysOf (leadOn G)).Nodup := fk.2.1 nd
      have g92 : (leadOn G).length ≤ 900 := Nat.le_trans fk.2.2.1 g9
      refine ⟨_, rfl, _, rfl, f, b2, kf, leadOn G, rfl, hf, ef, nd2, g92, lead_small x9, fun H3 d3 kv3 s3 h3 en3 => ?_⟩
      exact ⟨(leadOn G).length, (by omega), f, d3, b2, d3, kf, kv3, leadOn G, rfl, rfl, s2.trans s3, s3 _ _ hf, ef.keep (Kq.same s3), h3, en3, nd2, g92, lead_small x9, L.more⟩
    · refine if_f c ⟨_, rfl, l, _, rfl, hl, _, _, rfl, rfl, ?_⟩
      have r := L.round n5 hg (by omega)
      have z := q H' s2
      rw [r] at z
      have e : decide ((0 : Int) < ((kl.length : Nat) : Int)) = decide (0 < G.length) := by
        rw [ll]
        by_cases y : 0 < G.length
        · rw [decide_eq_true y]
          exact decide_eq_true (by omega)
        · rw [decide_eq_false y]
          exact decide_eq_false (by omega)
      rw [← e] at z
      exact z
end
end Mte
namespace Mte
open PySem PySem.Spec PyProof.Rows L2
open Ks565 (Folk)
abbrev sAll : Stmt := top 22
def allAns (n w : Nat) (v : List Int) (g : List Nat) : List Int := Ks567Neutral.out (Ks567.answer (.all n w v g))
theorem allAns_no {n w : Nat} {v : List Int} {g : List Nat} (h : ¬ (okW n v ∧ okG n g ∧ w ≤ 2)) : allAns n w v g = [-22] := by
  unfold allAns Ks567.answer
  dsimp only
  rw [way_no h]
  rfl
theorem allAns_yes {n w : Nat} {v : List Int} {g : List Nat} (c : okW n v) (d : okG n g) (hw : w ≤ 2) :
    allAns n w v g = [((Ks567.all ⟨n, v⟩ w (Ks565.tidy g)).length : Int), if Ks567.ends ⟨n, v⟩ w (Ks565.tidy g) then 1 else 0, if Ks567.round ⟨n, v⟩ w (Ks565.tidy g) then 1 else 0] := by
  unfold allAns Ks567.answer
  dsimp only
  rw [way_yes c d hw]
  rfl
theorem all_ans (n w : Int) (v gs : List Int) : PyKs567.all_of n w v gs = allAns n.toNat w.toNat v (gs.map Int.toNat) := rfl
def spAll (K : PySem.W.Frag) : Sp := fun vs H Q _ => ∃ (aw ag : Addr) (n w : Nat) (v : List Int) (g : List Nat), vs = [.int n, .int w, .ref aw, .ref ag] ∧ SqL K H aw (v.map V.int) ∧ SqL K H ag (nv g) ∧ n < 5000000000 ∧ g.length ≤ 900 ∧
  ∀ (H' : Hp) (p : Addr), H' p = some (.lst ((allAns n w v g).map V.int)) → Q (.ref p) H'
section
variable {P : Program} {w : World} {K : PySem.W.Frag} {mg : Str → Option Value} {base : Heap}
theorem scAll : FnScope ["n", "w", "worth", "groups", "onward"] ["n", "w", "worth", "groups"] (defScope sAll) := ⟨rfl, rfl, rfl, by decide +kernel, rfl, by decide +kernel, by decide +kernel⟩
theorem ok_all {f : Addr} {fd : FuncData} (F : Fun K "all_of" "all_of" sAll f fd) (T : TxtA mg) (CR : Cal P w K mg base 2 "is_refused" ["n", "w", "worth", "groups"] (spRef K))
    (CN : Cal P w K mg base 1 "numbered_as_they_come" ["groups"] (spNum K)) (CW : Cal P w K mg base 5 "ways_come_to" ["n", "w", "worth", "groups"] (spWay K)) (CS : Cal P w K mg base 1 "one_is_at_rest" ["onward"] (spRes K)) (CO : Cal P w K mg base 2 "may_go_round" ["onward"] (spRou K)) :
    FnOk P w K mg base CX0 6 f fd ["n", "w", "worth", "groups"] (spAll K) := by
  refine F.ok scAll (fun vs H Q E h => ?_) (fun cdv A outer s H vs Q E hr h => ?_)
  · obtain ⟨aw, ag, n, w', v, g, rfl, _⟩ := h
    rfl
  · obtain ⟨aw, ag, n, w', v, g, rfl, hW, hG, hn, hlen, q⟩ := h
    have hr1 : Room 1 _ := hr.mono (by decide)
    have hr2 : Room 2 _ := hr.mono (by decide)
    refine ⟨_, pss_cons (ps_if (pt_val (pe_cal CR hr2 rfl (pa_cons (pv 0) (pa_cons (pv 1) (pa_cons (pv 2) (pa_cons (pv 3) pa_nil)))))) (pss_one (ps_ret (pe_lst (pa_cons (pe_gi rfl T.refused) pa_nil)))) pss_nil)
      (pss_cons (ps_set (i := 4) scAll.nd rfl (Or.inl rfl) (pe_cal CW hr rfl (pa_cons (pv 0) (pa_cons (pv 1) (pa_cons (pv 2) (pa_cons (pe_cal CN hr1 rfl (pa_cons (pv 3) pa_nil)) pa_nil))))))
      (pss_one (ps_ret (pe_lst (pa_cons (pe_callB call_len_dT (by rfl) T.len PySem.boot_len (pa_cons (pv 4) pa_nil)) (pa_cons (pe_ifExp (pt_val (pe_cal CS hr1 rfl (pa_cons (pv 4) pa_nil))) pe_int pe_int)
        (pa_cons (pe_ifExp (pt_val (pe_cal CO hr2 rfl (pa_cons (pv 4) pa_nil))) pe_int pe_int) pa_nil))))))), ?_⟩
    refine ⟨_, rfl, _, rfl, _, rfl, _, rfl, aw, ag, n, w', v, g, rfl, hW, hG, hn, fun b hb => ⟨_, rfl, ?_⟩⟩
    cases b with
    | true =>
      refine iteT ⟨(by show 1 ≤ sizeLine; decide), fun p hp => q _ p ?_⟩
      rw [upd_same, allAns_no (fun z => Bool.noConfusion (hb.mpr z))]
      rfl
    | false =>
      refine iteF ?_
      obtain ⟨c, d, hw⟩ := hb.mp rfl
      have n5 : n ≤ 5 := c.2.1
      have hg : Tid n (Ks565.tidy g) := ⟨g, d.1, rfl⟩
      refine ⟨_, rfl, _, rfl, _, rfl, _, rfl, ag, g, rfl, hG, hlen, fun H1 p1 s1 np1 e1 => ?_⟩
      refine ⟨aw, p1, ⟨n, v⟩, Ks565.tidy g, w', rfl, s1.seq hW, SqL.of e1, ok_tidy c d, hw, hg, fun H2 dd bb kvs dn s2 hd en nd iff => ?_⟩
      have d52 : dn.length ≤ 52 := few n5 nd fun x hx => ((iff x).mp hx).tid (t := ⟨n, v⟩) hg
      have gl : (fromAll ⟨n, v⟩ w' dn).length ≤ 900 := by
        unfold fromAll
        rw [List.length_map]
        omega
      have gn : (keysOf (fromAll ⟨n, v⟩ w' dn)).Nodup := by
        rw [fromAll_keys]
        exact nd
      have gx : ∀ p ∈ fromAll ⟨n, v⟩ w' dn, p.2.length ≤ 900 := fun p hp => by
        obtain ⟨x, hx, rfl⟩ := List.mem_map.mp hp
        have tx : Tid n x := ((iff x).mp hx).tid (t := ⟨n, v⟩) hg
        have := next_len (t := ⟨n, v⟩) (w := w') c.1 n5 tx.lt
        show (Ks567.next ⟨n, v⟩ w' x).length ≤ 900
        omega
      have kl : kvs.length = (Ks567.all ⟨n, v⟩ w' (Ks565.tidy g)).length := by
        rw [all_length (t := ⟨n, v⟩) n5 hg nd iff, en.len]
        unfold fromAll
        rw [List.length_map]
      have fin : ∀ (H' : Hp) (b1 b2 : Bool), b1 = Ks567.ends ⟨n, v⟩ w' (Ks565.tidy g) → b2 = Ks567.round ⟨n, v⟩ w' (Ks565.tidy g) → ∀ p, H' p = none → Q (.ref p) (upd H' p (.lst [.int ((kvs.length : Nat) : Int), .int (if b1 then 1 else 0), .int (if b2 then 1 else 0)])) := fun H' b1 b2 z1 z2 p hp => q _ p (by
        rw [upd_same, allAns_yes c d hw, ← z1, ← z2, kl]
        rfl)
      have re := rests_in (t := ⟨n, v⟩) (w := w') n5 hg iff
      refine ⟨_, rfl, dd, _, rfl, hd, _, rfl, dd, bb, kvs, fromAll ⟨n, v⟩ w' dn, rfl, hd, en, gn, gl, fun H3 s3 => ⟨_, rfl, ?_⟩⟩
      have rest : ∀ b1 : Bool, b1 = Ks567.ends ⟨n, v⟩ w' (Ks565.tidy g) → (tIf (tB (tCall (spRou K) [] E0 (tCons (tVar 4) tNil))) (tC (.int 1)) (tC (.int 0))) [some (.int n), some (.int w'), some (.ref aw), some (.ref ag), some (.ref dd)] H3
          (fun x H4 => 3 ≤ sizeLine ∧ ∀ p, H4 p = none → Q (.ref p) (upd H4 p (.lst [.int ((kvs.length : Nat) : Int), .int (if b1 then 1 else 0), x]))) := fun b1 z1 => by
        refine ⟨_, rfl, dd, bb, kvs, fromAll ⟨n, v⟩ w' dn, ⟨n, v⟩, w', Ks565.tidy g, rfl, s3 _ _ hd, en.keep (Kq.same s3), gn, gl, gx, LG.start iff, n5, hg, fun H4 s4 => ⟨_, rfl, ?_⟩⟩
        cases e : Ks567.round ⟨n, v⟩ w' (Ks565.tidy g) with
        | true => exact iteT ⟨(by show 3 ≤ sizeLine; decide), fin H4 b1 true z1 e.symm⟩
        | false => exact iteF ⟨(by show 3 ≤ sizeLine; decide), fin H4 b1 false z1 e.symm⟩
      cases e : restsIn (fromAll ⟨n, v⟩ w' dn) with
      | true => exact iteT (rest true (e.symm.trans re))
      | false => exact iteF (rest false (e.symm.trans re))
theorem req_all {H : Hp} {a b : Addr} {n w : Int} {v gs : List Int} {Q : VK} {E : XK} (h1 : SqL K H a (v.map V.int)) (h2 : SqL K H b (gs.map V.int)) (hn : 0 ≤ n ∧ n ≤ 4294967295) (hw : 0 ≤ w) (hl : gs.length ≤ 7) (hg : ∀ x ∈ gs, 0 ≤ x)
    (q : ∀ (H' : Hp) (p : Addr), H' p = some (.lst ((PyKs567.all_of n w v gs).map V.int)) → Q (.ref p) H') : spAll K [.int n, .int w, .ref a, .ref b] H Q E := by
  refine ⟨a, b, n.toNat, w.toNat, v, gs.map Int.toNat, ?_, h1, by rw [nv_toNat hg]; exact h2, by omega, by rw [List.length_map]; omega, fun H' p hp => q H' p ?_⟩
  · rw [Int.toNat_of_nonneg hn.1, Int.toNat_of_nonneg hw]
  · rw [all_ans]
    exact hp
end
end Mte
namespace Mte
open PySem PySem.Spec PyProof.Rows L2
theorem all_mk {P : Program} {w : World} {K : PySem.W.Frag} {h : Heap} {mg : Str → Option Value} {fa : Addr} (X : K.In h) (G : h.Ns mainGlobals mg) (hfa : mg "all_of" = some (.ref fa))
    {f1 f2 f3 f4 f5 f6 f7 f8 f9 f10 f11 f12 f13 f14 f15 f16 : Addr} {od1 an1 od2 an2 od3 an3 od4 an4 od5 an5 od6 an6 od7 an7 od8 an8 od9 an9 od10 an10 od11 an11 od12 an12 od13 an13 od14 an14 od15 an15 od16 an16 : Option Addr} {sl1 sl2 sl3 sl4 sl5 sl6 sl7 sl8 sl9 sl10 sl11 sl12 sl13 sl14 sl15 sl16 : Array (Option Value)} {oc1 kV1 dc1 pm1 cd1 ct1 oc2 kV2 dc2 pm2 cd2 ct2 oc3 kV3 dc3 pm3 cd3 ct3 oc4 kV4 dc4 pm4 cd4 ct4 oc5 kV5 dc5 pm5 cd5 ct5 oc6 kV6 dc6 pm6 cd6 ct6 oc7 kV7 dc7 pm7 cd7 ct7 oc8 kV8 dc8 pm8 cd8 ct8 oc9 kV9 dc9 pm9 cd9 ct9 oc10 kV10 dc10 pm10 cd10 ct10 oc11 kV11 dc11 pm11 cd11 ct11 oc12 kV12 dc12 pm12 cd12 ct12 oc13 kV13 dc13 pm13 cd13 ct13 oc14 kV14 dc14 pm14 cd14 ct14 oc15 kV15 dc15 pm15 cd15 ct15 oc16 kV16 dc16 pm16 cd16 ct16 : Value} {tk0 tk1 tk2 tk3 tk4 tk5 : Tok}
    (a1 : PySem.W.nsIn K mainGlobals "worth_is_told" = some (some (.ref f1))) (l1 : K.lookup f1 = some ⟨oc1, od1, .func (PySem.W.fnOf "worth_is_told" "worth_is_told" (defArgs sWor) (defBody sWor) (defScope sWor) .none kV1 dc1 pm1 an1 cd1 ct1), sl1⟩) (c1 : PySem.W.codeIn K cd1 "worth_is_told" = true) (k1 : PySem.W.keepIn K (.ref f1) = true)
    (a2 : PySem.W.nsIn K mainGlobals "groups_are_told" = some (some (.ref f2))) (l2 : K.lookup f2 = some ⟨oc2, od2, .func (PySem.W.fnOf "groups_are_told" "groups_are_told" (defArgs sGro) (defBody sGro) (defScope sGro) .none kV2 dc2 pm2 an2 cd2 ct2), sl2⟩) (c2 : PySem.W.codeIn K cd2 "groups_are_told" = true) (k2 : PySem.W.keepIn K (.ref f2) = true)
    (a3 : PySem.W.nsIn K mainGlobals "is_refused" = some (some (.ref f3))) (l3 : K.lookup f3 = some ⟨oc3, od3, .func (PySem.W.fnOf "is_refused" "is_refused" (defArgs sRef) (defBody sRef) (defScope sRef) .none kV3 dc3 pm3 an3 cd3 ct3), sl3⟩) (c3 : PySem.W.codeIn K cd3 "is_refused" = true) (k3 : PySem.W.keepIn K (.ref f3) = true)
    (a4 : PySem.W.nsIn K mainGlobals "numbered_as_they_come" = some (some (.ref f4))) (l4 : K.lookup f4 = some ⟨oc4, od4, .func (PySem.W.fnOf "numbered_as_they_come" "numbered_as_they_come" (defArgs sNum) (defBody sNum) (defScope sNum) .none kV4 dc4 pm4 an4 cd4 ct4), sl4⟩) (c4 : PySem.W.codeIn K cd4 "numbered_as_they_come" = true) (k4 : PySem.W.keepIn K (.ref f4) = true)
    (a5 : PySem.W.nsIn K mainGlobals "has_with" = some (some (.ref f5))) (l5 : K.lookup f5 = some ⟨oc5, od5, .func (PySem.W.fnOf "has_with" "has_with" (defArgs sHas) (defBody sHas) (defScope sHas) .none kV5 dc5 pm5 an5 cd5 ct5), sl5⟩) (c5 : PySem.W.codeIn K cd5 "has_with" = true) (k5 : PySem.W.keepIn K (.ref f5) = true)
    (a6 : PySem.W.nsIn K mainGlobals "is_welcome" = some (some (.ref f6))) (l6 : K.lookup f6 = some ⟨oc6, od6, .func (PySem.W.fnOf "is_welcome" "is_welcome" (defArgs sWel) (defBody sWel) (defScope sWel) .none kV6 dc6 pm6 an6 cd6 ct6), sl6⟩) (c6 : PySem.W.codeIn K cd6 "is_welcome" = true) (k6 : PySem.W.keepIn K (.ref f6) = true)
    (a7 : PySem.W.nsIn K mainGlobals "is_let_go" = some (some (.ref f7))) (l7 : K.lookup f7 = some ⟨oc7, od7, .func (PySem.W.fnOf "is_let_go" "is_let_go" (defArgs sLet) (defBody sLet) (defScope sLet) .none kV7 dc7 pm7 an7 cd7 ct7), sl7⟩) (c7 : PySem.W.codeIn K cd7 "is_let_go" = true) (k7 : PySem.W.keepIn K (.ref f7) = true)
    (a8 : PySem.W.nsIn K mainGlobals "may_go" = some (some (.ref f8))) (l8 : K.lookup f8 = some ⟨oc8, od8, .func (PySem.W.fnOf "may_go" "may_go" (defArgs sMay) (defBody sMay) (defScope sMay) .none kV8 dc8 pm8 an8 cd8 ct8), sl8⟩) (c8 : PySem.W.codeIn K cd8 "may_go" = true) (k8 : PySem.W.keepIn K (.ref f8) = true)
    (a9 : PySem.W.nsIn K mainGlobals "where_one_may_go" = some (some (.ref f9))) (l9 : K.lookup f9 = some ⟨oc9, od9, .func (PySem.W.fnOf "where_one_may_go" "where_one_may_go" (defArgs sWhe) (defBody sWhe) (defScope sWhe) .none kV9 dc9 pm9 an9 cd9 ct9), sl9⟩) (c9 : PySem.W.codeIn K cd9 "where_one_may_go" = true) (k9 : PySem.W.keepIn K (.ref f9) = true)
    (a10 : PySem.W.nsIn K mainGlobals "moved" = some (some (.ref f10))) (l10 : K.lookup f10 = some ⟨oc10, od10, .func (PySem.W.fnOf "moved" "moved" (defArgs sMov) (defBody sMov) (defScope sMov) .none kV10 dc10 pm10 an10 cd10 ct10), sl10⟩) (c10 : PySem.W.codeIn K cd10 "moved" = true) (k10 : PySem.W.keepIn K (.ref f10) = true)
    (a11 : PySem.W.nsIn K mainGlobals "behind_one_move" = some (some (.ref f11))) (l11 : K.lookup f11 = some ⟨oc11, od11, .func (PySem.W.fnOf "behind_one_move" "behind_one_move" (defArgs sBeh) (defBody sBeh) (defScope sBeh) .none kV11 dc11 pm11 an11 cd11 ct11), sl11⟩) (c11 : PySem.W.codeIn K cd11 "behind_one_move" = true) (k11 : PySem.W.keepIn K (.ref f11) = true)
    (a12 : PySem.W.nsIn K mainGlobals "ways_come_to" = some (some (.ref f12))) (l12 : K.lookup f12 = some ⟨oc12, od12, .func (PySem.W.fnOf "ways_come_to" "ways_come_to" (defArgs sWay) (defBody sWay) (defScope sWay) .none kV12 dc12 pm12 an12 cd12 ct12), sl12⟩) (c12 : PySem.W.codeIn K cd12 "ways_come_to" = true) (k12 : PySem.W.keepIn K (.ref f12) = true)
    (a13 : PySem.W.nsIn K mainGlobals "one_is_at_rest" = some (some (.ref f13))) (l13 : K.lookup f13 = some ⟨oc13, od13, .func (PySem.W.fnOf "one_is_at_rest" "one_is_at_rest" (defArgs sRes) (defBody sRes) (defScope sRes) .none kV13 dc13 pm13 an13 cd13 ct13), sl13⟩) (c13 : PySem.W.codeIn K cd13 "one_is_at_rest" = true) (k13 : PySem.W.keepIn K (.ref f13) = true)
    (a14 : PySem.W.nsIn K mainGlobals "that_lead_on" = some (some (.ref f14))) (l14 : K.lookup f14 = some ⟨oc14, od14, .func (PySem.W.fnOf "that_lead_on" "that_lead_on" (defArgs sTha) (defBody sTha) (defScope sTha) .none kV14 dc14 pm14 an14 cd14 ct14), sl14⟩) (c14 : PySem.W.codeIn K cd14 "that_lead_on" = true) (k14 : PySem.W.keepIn K (.ref f14) = true)
    (a15 : PySem.W.nsIn K mainGlobals "may_go_round" = some (some (.ref f15))) (l15 : K.lookup f15 = some ⟨oc15, od15, .func (PySem.W.fnOf "may_go_round" "may_go_round" (defArgs sRou) (defBody sRou) (defScope sRou) .none kV15 dc15 pm15 an15 cd15 ct15), sl15⟩) (c15 : PySem.W.codeIn K cd15 "may_go_round" = true) (k15 : PySem.W.keepIn K (.ref f15) = true)
    (a16 : PySem.W.nsIn K mainGlobals "all_of" = some (some (.ref f16))) (l16 : K.lookup f16 = some ⟨oc16, od16, .func (PySem.W.fnOf "all_of" "all_of" (defArgs sAll) (defBody sAll) (defScope sAll) .none kV16 dc16 pm16 an16 cd16 ct16), sl16⟩) (c16 : PySem.W.codeIn K cd16 "all_of" = true) (k16 : PySem.W.keepIn K (.ref f16) = true)
    (ga0 : PySem.W.nsIn K mainGlobals "MOST_PEOPLE" = some (some (.int (5) tk0)))
    (ga1 : PySem.W.nsIn K mainGlobals "MOST_WORTH" = some (some (.int (20) tk1)))
    (ga2 : PySem.W.nsIn K mainGlobals "WHERE_WELCOME" = some (some (.int (1) tk2)))
    (ga3 : PySem.W.nsIn K mainGlobals "WHERE_LET_GO" = some (some (.int (2) tk3)))
    (ga4 : PySem.W.nsIn K mainGlobals "LAST_WAY" = some (some (.int (2) tk4)))
    (ga5 : PySem.W.nsIn K mainGlobals "REFUSED" = some (some (.int (-22) tk5)))
    (z0 : PySem.W.nsIn K mainGlobals "range" = some none)
    (z1 : PySem.W.nsIn K mainGlobals "max" = some none)
    (z2 : PySem.W.nsIn K mainGlobals "len" = some none)
    (z3 : PySem.W.nsIn K mainGlobals "list" = some none)
    (z4 : PySem.W.nsIn K mainGlobals "tuple" = some none)
    (z5 : PySem.W.nsIn K mainGlobals "any" = some none)
    : ∃ fd : FuncData, (∀ (s : Shared) (us : List Value), us.length = (["n", "w", "worth", "groups"] : List Str).length → BindsTo s fd ⟨us, []⟩ ((["n", "w", "worth", "groups"] : List Str).zip us)) ∧ ∀ base : Heap, K.In base → base.Ns mainGlobals mg → FnOk P w K mg base CX0 6 fa fd ["n", "w", "worth", "groups"] (spAll K) := by
  have e := hfa.symm.trans (PySem.W.mg_of X G a16)
  cases e
  have D_worth_is_told : Dfx K mg "worth_is_told" sWor ["n", "worth"] := dfx_mk X G a1 l1 c1 k1 fun _ _ _ _ _ _ us hl => match us, hl with | [_, _], _ => rfl
  have D_groups_are_told : Dfx K mg "groups_are_told" sGro ["n", "groups"] := dfx_mk X G a2 l2 c2 k2 fun _ _ _ _ _ _ us hl => match us, hl with | [_, _], _ => rfl
  have D_is_refused : Dfx K mg "is_refused" sRef ["n", "w", "worth", "groups"] := dfx_mk X G a3 l3 c3 k3 fun _ _ _ _ _ _ us hl => match us, hl with | [_, _, _, _], _ => rfl
  have D_numbered_as_they_come : Dfx K mg "numbered_as_they_come" sNum ["groups"] := dfx_mk X G a4 l4 c4 k4 fun _ _ _ _ _ _ us hl => match us, hl with | [_], _ => rfl
  have D_has_with : Dfx K mg "has_with" sHas ["n", "worth", "groups", "person", "number"] := dfx_mk X G a5 l5 c5 k5 fun _ _ _ _ _ _ us hl => match us, hl with | [_, _, _, _, _], _ => rfl
  have D_is_welcome : Dfx K mg "is_welcome" sWel ["n", "worth", "groups", "person", "number"] := dfx_mk X G a6 l6 c6 k6 fun _ _ _ _ _ _ us hl => match us, hl with | [_, _, _, _, _], _ => rfl
  have D_is_let_go : Dfx K mg "is_let_go" sLet ["n", "worth", "groups", "person"] := dfx_mk X G a7 l7 c7 k7 fun _ _ _ _ _ _ us hl => match us, hl with | [_, _, _, _], _ => rfl
  have D_may_go : Dfx K mg "may_go" sMay ["n", "w", "worth", "groups", "person", "number"] := dfx_mk X G a8 l8 c8 k8 fun _ _ _ _ _ _ us hl => match us, hl with | [_, _, _, _, _, _], _ => rfl
  have D_where_one_may_go : Dfx K mg "where_one_may_go" sWhe ["n", "w", "worth", "groups", "person"] := dfx_mk X G a9 l9 c9 k9 fun _ _ _ _ _ _ us hl => match us, hl with | [_, _, _, _, _], _ => rfl
  have D_moved : Dfx K mg "moved" sMov ["groups", "person", "number"] := dfx_mk X G a10 l10 c10 k10 fun _ _ _ _ _ _ us hl => match us, hl with | [_, _, _], _ => rfl
  have D_behind_one_move : Dfx K mg "behind_one_move" sBeh ["n", "w", "worth", "groups"] := dfx_mk X G a11 l11 c11 k11 fun _ _ _ _ _ _ us hl => match us, hl with | [_, _, _, _], _ => rfl
  have D_ways_come_to : Dfx K mg "ways_come_to" sWay ["n", "w", "worth", "groups"] := dfx_mk X G a12 l12 c12 k12 fun _ _ _ _ _ _ us hl => match us, hl with | [_, _, _, _], _ => rfl
  have D_one_is_at_rest : Dfx K mg "one_is_at_rest" sRes ["onward"] := dfx_mk X G a13 l13 c13 k13 fun _ _ _ _ _ _ us hl => match us, hl with | [_], _ => rfl
  have D_that_lead_on : Dfx K mg "that_lead_on" sTha ["onward"] := dfx_mk X G a14 l14 c14 k14 fun _ _ _ _ _ _ us hl => match us, hl with | [_], _ => rfl
  have D_may_go_round : Dfx K mg "may_go_round" sRou ["onward"] := dfx_mk X G a15 l15 c15 k15 fun _ _ _ _ _ _ us hl => match us, hl with | [_], _ => rfl
  have F := fun_mk (st := sAll) l16 c16 k16
  refine ⟨PySem.W.fnOf "all_of" "all_of" (defArgs sAll) (defBody sAll) (defScope sAll) .none kV16 dc16 pm16 an16 cd16 ct16, fun s us hu => match us, hu with | [_, _, _, _], _ => .of_eq rfl, fun base _ _ => ?_⟩
  have TW : TxtW mg := ⟨PySem.W.mg_none_of X G z0, PySem.W.mg_none_of X G z2, gi_mk X G ga0, gi_mk X G ga1, gi_mk X G ga5⟩
  have T : Txt mg := ⟨TW, PySem.W.mg_none_of X G z1, PySem.W.mg_none_of X G z3, gi_mk X G ga2, gi_mk X G ga3, gi_mk X G ga4⟩
  have CH : Cal P w K mg base 1 "has_with" _ (spHas K) := ok_has D_has_with TW
  have CWe : Cal P w K mg base 1 "is_welcome" _ (spWel K) := ok_wel D_is_welcome T
  have CL : Cal P w K mg base 1 "is_let_go" _ (spLet K) := ok_let D_is_let_go T
  have CMa : Cal P w K mg base 2 "may_go" _ (spMay K) := ok_may D_may_go T CH CWe CL
  have CWh : Cal P w K mg base 3 "where_one_may_go" _ (spWhe K) := ok_whe D_where_one_may_go T CMa
  have CN : Cal P w K mg base 1 "numbered_as_they_come" _ (spNum K) := ok_num D_numbered_as_they_come TW
  have CM : Cal P w K mg base 2 "moved" _ (spMov K) := ok_mov D_moved T CN
  have CWo : Cal P w K mg base 1 "worth_is_told" _ (spWor K) := ok_wor D_worth_is_told TW
  have CG : Cal P w K mg base 1 "groups_are_told" _ (spGro K) := ok_gro D_groups_are_told TW
  have CR : Cal P w K mg base 2 "is_refused" _ (spRef K) := ok_ref D_is_refused T CWo CG
  have TA : TxtA mg := ⟨T, PySem.W.mg_none_of X G z4, PySem.W.mg_none_of X G z5⟩
  have CBe : Cal P w K mg base 4 "behind_one_move" _ (spBeh K) := ok_beh D_behind_one_move TA CWh CM
  have CWy : Cal P w K mg base 5 "ways_come_to" _ (spWay K) := ok_way D_ways_come_to TA CBe
  have CS : Cal P w K mg base 1 "one_is_at_rest" _ (spRes K) := ok_res D_one_is_at_rest TA
  have CT : Cal P w K mg base 1 "that_lead_on" _ (spTha K) := ok_tha D_that_lead_on TA
  have CO : Cal P w K mg base 2 "may_go_round" _ (spRou K) := ok_rou D_may_go_round TA CT
  exact ok_all F TA CR CN CWy CS CO
end Mte
open PySem PySem.W PyProof.Rows
set_option maxRecDepth 100000 in
set_option maxHeartbeats 8000000 in
theorem PySem.Challenge.cw_movesthatend_s06_all_of_holds : PySem.Challenge.rw_movesthatend_s06_all_of.Holds := by
  w_on; k_headS; (case hw => exact ⟨[.int 0, .int 0, .list [], .list []], by decide +kernel, by decide +kernel⟩)
  k_fillS
  refine L2.walk_specK (r := PySem.Challenge.rw_movesthatend_s06_all_of) (k := 6) (CX := L2.CX0) (ps := ["n", "w", "worth", "groups"]) (sp := Mte.spAll) (by decide +kernel) rfl rfl ⟨rfl, by decide, by decide⟩ (fun w h Y => PySem.W.kIn_of Y) ?F ?S (fun _ _ _ _ z => z)
  case F =>
    intro w mg fa h Y KX G hmg
    refine' Mte.all_mk KX G hmg ?a1 ?l1 ?c1 ?k1 ?a2 ?l2 ?c2 ?k2 ?a3 ?l3 ?c3 ?k3 ?a4 ?l4 ?c4 ?k4 ?a5 ?l5 ?c5 ?k5 ?a6 ?l6 ?c6 ?k6 ?a7 ?l7 ?c7 ?k7 ?a8 ?l8 ?c8 ?k8 ?a9 ?l9 ?c9 ?k9 ?a10 ?l10 ?c10 ?k10 ?a11 ?l11 ?c11 ?k11 ?a12 ?l12 ?c12 ?k12 ?a13 ?l13 ?c13 ?k13 ?a14 ?l14 ?c14 ?k14 ?a15 ?l15 ?c15 ?k15 ?a16 ?l16 ?c16 ?k16 ?ga0 ?ga1 ?ga2 ?ga3 ?ga4 ?ga5 ?z0 ?z1 ?z2 ?z3 ?z4 ?z5
    (case a1 => k_is)
    (case l1 => k_is)
    (case c1 => k_is)
    (case k1 => k_is)
    (case a2 => k_is)
    (case l2 => k_is)
    (case c2 => k_is)
    (case k2 => k_is)
    (case a3 => k_is)
    (case l3 => k_is)
    (case c3 => k_is)
    (case k3 => k_is)
    (case a4 => k_is)
    (case l4 => k_is)
    (case c4 => k_is)
    (case k4 => k_is)
    (case a5 => k_is)
    (case l5 => k_is)
    (case c5 => k_is)
    (case k5 => k_is)
    (case a6 => k_is)
    (case l6 => k_is)
    (case c6 => k_is)
    (case k6 => k_is)
    (case a7 => k_is)
    (case l7 => k_is)
    (case c7 => k_is)
    (case k7 => k_is)
    (case a8 => k_is)
    (case l8 => k_is)
    (case c8 => k_is)
    (case k8 => k_is)
    (case a9 => k_is)
    (case l9 => k_is)
    (case c9 => k_is)
    (case k9 => k_is)
    (case a10 => k_is)
    (case l10 => k_is)
    (case c10 => k_is)
    (case k10 => k_is)
    (case a11 => k_is)
    (case l11 => k_is)
    (case c11 => k_is)
    (case k11 => k_is)
    (case a12 => k_is)
    (case l12 => k_is)
    (case c12 => k_is)
    (case k12 => k_is)
    (case a13 => k_is)
    (case l13 => k_is)
    (case c13 => k_is)
    (case k13 => k_is)
    (case a14 => k_is)
    (case l14 => k_is)
    (case c14 => k_is)
    (case k14 => k_is)
    (case a15 => k_is)
    (case l15 => k_is)
    (case c15 => k_is)
    (case k15 => k_is)
    (case a16 => k_is)
    (case l16 => k_is)
    (case c16 => k_is)
    (case k16 => k_is)
    (case ga0 => k_is)
    (case ga1 => k_is)
    (case ga2 => k_is)
    (case ga3 => k_is)
    (case ga4 => k_is)
    (case ga5 => k_is)
    (case z0 => k_is)
    (case z1 => k_is)
    (case z2 => k_is)
    (case z3 => k_is)
    (case z4 => k_is)
    (case z5 => k_is)
  case S =>
    intro K H xs a hO hwi hask hx
    cases hx with
    | cons h0 r0 =>
    cases r0 with
    | cons h1 r1 =>
    cases r1 with
    | cons h2 r2 =>
    cases r2 with
    | cons h3 r3 =>
    cases r3
    cases h0
    cases h1
    cases h2 with
    | lst s2 d2 =>
    cases h3 with
    | lst s3 d3 =>
    have e2 := L2.ints_dw a.2.2.1 _ d2
    subst e2
    have e3 := L2.ints_dw a.2.2.2.1 _ d3
    subst e3
    have wi : (Codec.inInt 0 4294967295 a.1 && (Codec.inInt 0 4294967295 a.2.1 && ((Codec.inLen 0 27 a.2.2.1 && a.2.2.1.all (Codec.inInt (-2147483648) 2147483647)) && ((Codec.inLen 0 7 a.2.2.2.1 && a.2.2.2.1.all (Codec.inInt 0 4294967295)) && true)))) = true := hwi
    simp only [Bool.and_eq_true, List.all_eq_true] at wi
    obtain ⟨i0, i1, _, ⟨i3, j3⟩, _⟩ := wi
    exact Mte.req_all s2 s3 (Codec.inInt_iff.mp i0) (Codec.inInt_iff.mp i1).1 (Codec.inNat_iff.mp i3).2 (fun x hx => (Codec.inInt_iff.mp (j3 x hx)).1) fun H' p hp => .lst (L2.SqL.of hp) (L2.dw_ints _)
#print axioms PySem.Challenge.cw_movesthatend_s06_all_of_holds
