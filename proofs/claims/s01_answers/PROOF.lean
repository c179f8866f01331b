import PyProof.Rows.All
import Wide.All
import OpenK.AllK
import Wide.FinOn
import Open.SpecLaws
import KE.OsGo
import KE.DataMinMax
import HandS.ForSpec
import HandS.Comp
import HandS.Iter
import HandS.Walk
import HandS.SortKw
import KE.KSortKeySt
import HandS.Lambda
import HandS.Nested
import HandS.Conv
import HandS.Slots
import KE.KNest
import PySem.Challenge.RW_glovepairs_s01_answers
set_option Elab.async false
set_option maxRecDepth 100000
set_option maxHeartbeats 2000000
namespace Gp
/-! ### the line of calls, as it is handed in -/
def encq (q : List Int) : List Int := match q with
  | [] => []
  | p :: xs => p :: ((xs.length : Nat) : Int) :: (xs ++ [0])
def run (s : Si90.Box) (cs : List (List (List Int))) : Si90.Box := cs.foldl (fun s c => (Si90Neutral.step s c).1) s
theorem rows_len : ∀ (k : Nat) (r : List Int) (xs : List (List Int)) (t : List Int), PyFlat.rows k r = some (xs, t) → xs.length = k ∧ (k = 0 → t = r)
  | 0, r, xs, t, h => by
    simp only [PyFlat.rows] at h
    cases h
    exact ⟨rfl, fun _ => rfl⟩
  | k + 1, r, xs, t, h => by
    simp only [PyFlat.rows] at h
    split at h
    · cases h
    · rename_i x s _
      split at h
      · cases h
      · rename_i ys u e2
        cases h
        exact ⟨by rw [List.length_cons, (rows_len k _ _ _ e2).1], fun z => by omega⟩
theorem row_is {r ns t : List Int} (h : PyFlat.row r = some (ns, t)) : r = ((ns.length : Nat) : Int) :: (ns ++ t) := by
  cases r with
  | nil => simp [PyFlat.row] at h
  | cons n r =>
    simp only [PyFlat.row] at h
    split at h
    · rename_i hc
      injection h with h
      injection h with h1 h2
      subst h1 h2
      rw [List.take_append_drop]
      congr 1
      rw [List.length_take, Nat.min_eq_left hc.2]
      omega
    · cases h
theorem call_is {l : List Int} {c : List (List Int)} {t : List Int} (h : PyWide.call l = some (c, t)) (hc : c.length = 1) : ∃ q : List Int, c = [q] ∧ q ≠ [] ∧ l = encq q ++ t := by
  cases l with
  | nil => simp [PyWide.call] at h
  | cons p r =>
    simp only [PyWide.call] at h
    split at h
    · cases h
    · cases h
    · rename_i ns k u e
      split at h
      · rename_i hk
        split at h
        · cases h
        · rename_i xs v e2
          injection h with h
          injection h with h1 h2
          subst h1 h2
          have h3 := rows_len _ _ _ _ e2
          have hx : xs.length = 0 := by simpa using hc
          have hk0 : k.toNat = 0 := by omega
          have hkz : k = 0 := by omega
          have := h3.2 hk0
          subst this
          have hxs : xs = [] := List.eq_nil_of_length_eq_zero hx
          subst hxs hkz
          refine ⟨p :: ns, rfl, by simp, ?_⟩
          rw [row_is e]
          simp [encq]
      · cases h
theorem calls_is : ∀ (f : Nat) (l : List Int) (cs : List (List (List Int))), PyWide.calls f l = some cs → (∀ c ∈ cs, c.length = 1) → ∃ qs : List (List Int), cs = qs.map (fun q => [q]) ∧ (∀ q ∈ qs, q ≠ []) ∧ l = qs.flatMap encq
  | _, [], cs, h, _ => by
    have : cs = [] := by
      cases ‹Nat› <;> simp [PyWide.calls] at h <;> exact h
    subst this
    exact ⟨[], rfl, by simp, rfl⟩
  | 0, _ :: _, cs, h, _ => by simp [PyWide.calls] at h
  | f + 1, p :: r, cs, h, hc => by
    simp only [PyWide.calls] at h
    split at h
    · cases h
    · rename_i c t e
      split at h
      · cases h
      · rename_i cs' e2
        injection h with h
        subst h
        obtain ⟨q, rfl, hq, hl⟩ := call_is e (hc _ List.mem_cons_self)
        obtain ⟨qs, rfl, hqs, rfl⟩ := calls_is f t cs' e2 (fun c hm => hc c (List.mem_cons_of_mem _ hm))
        refine ⟨q :: qs, rfl, ?_, ?_⟩
        · intro x hx
          rcases List.mem_cons.mp hx with rfl | hx
          · exact hq
          · exact hqs x hx
        · rw [hl, List.flatMap_cons]
/-! ### what is answered, call by call -/
theorem played_snoc : ∀ (cs : List (List (List Int))) (c : List (List Int)) (s : Si90.Box), PyFlat.played Si90Neutral.step s (cs ++ [c]) = PyFlat.played Si90Neutral.step s cs ++ [(Si90Neutral.step (run s cs) c).2]
  | [], c, s => rfl
  | d :: cs, c, s => by
    show (Si90Neutral.step s d).2 :: PyFlat.played Si90Neutral.step (Si90Neutral.step s d).1 (cs ++ [c]) = _
    rw [played_snoc cs c]
    rfl
theorem run_snoc (s : Si90.Box) (cs : List (List (List Int))) (c : List (List Int)) : run s (cs ++ [c]) = (Si90Neutral.step (run s cs) c).1 := by
  unfold run
  rw [List.foldl_append]
  rfl
theorem told_append (a b : List (List Int)) : PyFlat.told (a ++ b) = PyFlat.told a ++ PyFlat.told b := by
  unfold PyFlat.told
  rw [List.flatMap_append]
/-- what is told behind so many calls -/
def outOf (qs : List (List Int)) : List Int := PyFlat.told (PyFlat.played Si90Neutral.step Si90Neutral.start (qs.map fun q => [q]))
def boxOf (qs : List (List Int)) : Si90.Box := run Si90Neutral.start (qs.map fun q => [q])
theorem outOf_snoc (qs : List (List Int)) (q : List Int) : outOf (qs ++ [q]) = outOf qs ++ (((Si90Neutral.step (boxOf qs) [q]).2.length : Nat) : Int) :: (Si90Neutral.step (boxOf qs) [q]).2 := by
  unfold outOf
  rw [List.map_append, List.map_singleton, played_snoc, told_append]
  simp [PyFlat.told, boxOf]
theorem boxOf_snoc (qs : List (List Int)) (q : List Int) : boxOf (qs ++ [q]) = (Si90Neutral.step (boxOf qs) [q]).1 := by
  unfold boxOf
  rw [List.map_append, List.map_singleton, run_snoc]
theorem played_prefix : ∀ (a b : List (List (List Int))) (s : Si90.Box), ∃ r, PyFlat.played Si90Neutral.step s (a ++ b) = PyFlat.played Si90Neutral.step s a ++ r
  | [], b, s => ⟨_, rfl⟩
  | c :: a, b, s => by
    obtain ⟨r, e⟩ := played_prefix a b (Si90Neutral.step s c).1
    refine ⟨r, ?_⟩
    show (Si90Neutral.step s c).2 :: PyFlat.played Si90Neutral.step (Si90Neutral.step s c).1 (a ++ b) = _
    rw [e]
    rfl
theorem outOf_le (a b : List (List Int)) : (outOf a).length ≤ (outOf (a ++ b)).length := by
  unfold outOf
  rw [List.map_append]
  obtain ⟨r, e⟩ := played_prefix (a.map fun q => [q]) (b.map fun q => [q]) Si90Neutral.start
  rw [e, told_append, List.length_append]
  omega
/-! ### a call from its numbers -/
theorem toNats {q : List Int} (h : ∀ z ∈ q, 0 ≤ z) : (q.map Int.toNat).map (fun (n : Nat) => (n : Int)) = q := by
  rw [List.map_map]
  conv => rhs; rw [← List.map_id q]
  apply List.map_congr_left
  intro z hz
  have := h z hz
  simp only [Function.comp, id]
  omega
/-- the seven forms -/
inductive Form : List Int → Si90.Call → Prop where
  | begins (d : Nat) : Form [0, (d : Int)] (.begins d)
  | left (d : Nat) : Form [1, (d : Int)] (.left d)
  | right (d : Nat) : Form [2, (d : Int)] (.right d)
  | check (r : List Nat) (h : r.length ≤ 6) : Form (3 :: r.map fun (n : Nat) => (n : Int)) (.check r)
  | best : Form [4] .best
  | plain : Form [5] .plain
  | needs (n : Nat) : Form [6, (n : Int)] (.needs n)
theorem form_of {q : List Int} {c : Si90.Call} (hn : ∀ z ∈ q, 0 ≤ z) (h : Si90Neutral.callOf q = some c) : Form q c := by
  have e := toNats hn
  unfold Si90Neutral.callOf at h
  generalize q.map Int.toNat = m at h e
  subst e
  split at h
  all_goals first
    | (cases h; constructor)
    | skip
  · split at h
    · rename_i hl
      cases h
      exact .check _ hl
    · cases h
  · cases h
theorem step_of {b : Si90.Box} {q : List Int} {c : Si90.Call} (h : Si90Neutral.callOf q = some c) : Si90Neutral.step b [q] = ((Si90.step b c).1, (Si90.step b c).2.v :: (Si90.step b c).2.l) := by
  unfold Si90Neutral.step
  show (match Si90Neutral.callOf q with | none => _ | some q => _) = _
  rw [h]
/-! ### what is asked -/
structure Asked (ns : List Int) (qs : List (List Int)) : Prop where
  line : ns = qs.flatMap encq
  ne : ∀ q ∈ qs, q ≠ []
  nat : ∀ q ∈ qs, ∀ z ∈ q, 0 ≤ z ∧ z < 4294967296
  form : ∀ q ∈ qs, ∃ c, Si90Neutral.callOf q = some c
  out : PySi90.answers ns = outOf qs
  short : (outOf qs).length ≤ 10000000
theorem asked_of {ns : List Int} (h : PySi90.answers_asked ns = true) : ∃ qs, Asked ns qs := by
  unfold PySi90.answers_asked at h
  split at h
  · cases h
  · rename_i cs e
    simp only [Bool.and_eq_true] at h
    obtain ⟨⟨⟨⟨_, hf⟩, _⟩, ha⟩, hs⟩ := h
    unfold Si90Neutral.asked at ha
    simp only [Bool.and_eq_true] at ha
    have h1 := ha.1
    rw [List.all_eq_true] at h1
    have hlen : ∀ c ∈ cs, c.length = 1 := fun c hc => by
      have := h1 c hc
      unfold Si90Neutral.asked1 at this
      simp only [Bool.and_eq_true, beq_iff_eq] at this
      exact this.1
    unfold PySi90.calls at e
    obtain ⟨qs, rfl, hne, hl⟩ := calls_is _ _ _ e hlen
    have ho : PySi90.answers ns = outOf qs := by
      unfold PySi90.answers PySi90.calls
      rw [e]
      rfl
    refine ⟨qs, hl, hne, ?_, ?_, ho, ?_⟩
    · intro q hq z hz
      have := h1 [q] (List.mem_map.mpr ⟨q, hq, rfl⟩)
      unfold Si90Neutral.asked1 at this
      simp only [Bool.and_eq_true, List.headD_cons] at this
      have := List.all_eq_true.mp this.2.1 z hz
      unfold Si90Neutral.natural at this
      simp only [Bool.and_eq_true, decide_eq_true_eq] at this
      omega
    · intro q hq
      have := h1 [q] (List.mem_map.mpr ⟨q, hq, rfl⟩)
      unfold Si90Neutral.asked1 at this
      simp only [Bool.and_eq_true, List.headD_cons] at this
      exact Option.isSome_iff_exists.mp this.2.2
    · unfold PyFlat.short at hs
      rw [ho] at hs
      exact of_decide_eq_true hs
end Gp
namespace Gp
open Si90
/-! ### a box stays within its bounds -/
structure Ok (b : Box) : Prop where
  nl : b.lefts.length ≤ 5
  nr : b.rights.length ≤ 5
  sl : ∀ x ∈ b.lefts, x ≤ 1000
  sr : ∀ x ∈ b.rights, x ≤ 1000
  lim : b.limit ≤ 1000
theorem ok_start : Ok Si90Neutral.start := ⟨by decide, by decide, by simp [Si90Neutral.start, Si90.init], by simp [Si90Neutral.start, Si90.init], by decide⟩
theorem ok_step {b : Box} (h : Ok b) (c : Call) : Ok (step b c).1 := by
  cases c with
  | begins d =>
    show Ok (if SIZE < d then (b, ok (-1)) else (⟨d, [], []⟩, ok 0)).1
    split
    · exact h
    · rename_i q
      exact ⟨by simp, by simp, by simp, by simp, Nat.le_of_not_lt q⟩
  | left v =>
    show Ok (if SIZE < v then (b, ok (-1)) else if GLOVES ≤ b.lefts.length then (b, ok (-5)) else ({ b with lefts := b.lefts ++ [v] }, ok ((b.lefts.length : Nat) : Int))).1
    split
    · exact h
    · split
      · exact h
      · rename_i q1 q2
        simp only [SIZE, GLOVES] at q1 q2
        refine ⟨by simp; omega, h.nr, fun x hx => ?_, h.sr, h.lim⟩
        rcases List.mem_append.mp hx with hx | hx
        · exact h.sl x hx
        · simp at hx
          omega
  | right v =>
    show Ok (if SIZE < v then (b, ok (-1)) else if GLOVES ≤ b.rights.length then (b, ok (-5)) else ({ b with rights := b.rights ++ [v] }, ok ((b.rights.length : Nat) : Int))).1
    split
    · exact h
    · split
      · exact h
      · rename_i q1 q2
        simp only [SIZE, GLOVES] at q1 q2
        refine ⟨h.nl, by simp; omega, h.sl, fun x hx => ?_, h.lim⟩
        rcases List.mem_append.mp hx with hx | hx
        · exact h.sr x hx
        · simp at hx
          omega
  | check l =>
    show Ok (if b.told l = false then (b, ok (-1)) else (b, _)).1
    split <;> exact h
  | best => exact h
  | plain => exact h
  | needs n => exact h
theorem ok_boxOf (qs : List (List Int)) (h : ∀ q ∈ qs, ∃ c, Si90Neutral.callOf q = some c) : Ok (boxOf qs) := by
  have : ∀ (n : Nat) (qs : List (List Int)), qs.length = n → (∀ q ∈ qs, ∃ c, Si90Neutral.callOf q = some c) → Ok (boxOf qs) := by
    intro n
    induction n with
    | zero =>
      intro qs e _
      rw [List.eq_nil_of_length_eq_zero e]
      exact ok_start
    | succ n ih =>
      intro qs e h
      have hne : qs ≠ [] := by
        intro z
        rw [z] at e
        simp at e
      rw [← List.dropLast_concat_getLast hne]
      have hm : qs.getLast hne ∈ qs := List.getLast_mem hne
      obtain ⟨c, hc⟩ := h _ hm
      rw [boxOf_snoc, step_of hc]
      exact ok_step (ih qs.dropLast (by rw [List.length_dropLast]; omega) fun q hq => h q (List.dropLast_subset _ hq)) c
  exact this _ qs rfl h
/-! ### check: the left ones that have a right one -/
/-- each left one from s on that has a right one, with it -/
def had (none : Nat) (l : List Nat) (is : List Nat) : List (Nat × Nat) := (is.filter fun i => l.getD i 0 != none).map fun i => (i, l.getD i 0)
def paired (none : Nat) (l : List Nat) : List (Nat × Nat) := had none l (List.range l.length)
theorem find_had {α : Type} (p q : α → Bool) (is : List α) {β : Type} (f : α → β) (g : β → α) (hg : ∀ a, g (f a) = a) : (is.find? fun i => p i && q i) = (((is.filter p).map f).find? fun x => q (g x)).map g := by
  rw [List.find?_map, List.find?_filter, Option.map_map]
  have : (g ∘ f) = id := funext fun a => hg a
  rw [this, Option.map_id, id]
  congr 1
  funext a
  simp [hg]
theorem bad_is (b : Box) (l : List Nat) : b.bad l = ((paired b.none_ l).find? fun x => decide (b.limit < b.differ x.1 x.2)).map (fun x => x.1) := by
  unfold Box.bad paired had
  generalize List.range l.length = is
  induction is with
  | nil => rfl
  | cons i is ih =>
    rw [List.find?_cons]
    by_cases h : l.getD i 0 = b.none_
    · have e : (l.getD i 0 != b.none_) = false := bne_eq_false_iff_eq.mpr h
      rw [e, Bool.false_and, List.filter_cons, e]
      exact ih
    · have e : (l.getD i 0 != b.none_) = true := by simpa using h
      rw [List.filter_cons, if_pos e, List.map_cons, List.find?_cons, e, Bool.true_and]
      by_cases h2 : b.limit < b.differ i (l.getD i 0)
      · rw [decide_eq_true h2]
        rfl
      · rw [decide_eq_false h2]
        exact ih
/-- the first whose right one is among told, or is told of one before it -/
def again : List Nat → List (Nat × Nat) → Option Nat
  | _, [] => none
  | told, (i, k) :: r => if k ∈ told then some i else again (told ++ [k]) r
theorem range_any (l : List Nat) (none : Nat) (s : Nat) (h : l.getD s 0 ≠ none) : ((List.range s).any fun j => l.getD j 0 == l.getD s 0) = decide (l.getD s 0 ∈ (had none l (List.range s)).map fun x => x.2) := by
  rw [Bool.eq_iff_iff, List.any_eq_true, decide_eq_true_eq]
  unfold had
  constructor
  · rintro ⟨j, hj, e⟩
    have e := eq_of_beq e
    rw [List.map_map]
    refine List.mem_map.mpr ⟨j, List.mem_filter.mpr ⟨hj, bne_iff_ne.mpr (by rw [e]; exact h)⟩, e⟩
  · intro hm
    rw [List.map_map] at hm
    obtain ⟨j, hj, e⟩ := List.mem_map.mp hm
    exact ⟨j, (List.mem_filter.mp hj).1, by simpa using e⟩
theorem had_append (none : Nat) (l a b : List Nat) : had none l (a ++ b) = had none l a ++ had none l b := by
  unfold had
  rw [List.filter_append, List.map_append]
theorem again_is (none : Nat) (l : List Nat) : ∀ (n s : Nat), ((List.range' s n).find? fun i => l.getD i 0 != none && (List.range i).any fun j => l.getD j 0 == l.getD i 0) = again ((had none l (List.range s)).map fun x => x.2) (had none l (List.range' s n))
  | 0, s => rfl
  | n + 1, s => by
    rw [List.range'_succ, List.find?_cons]
    have hr : had none l (List.range (s + 1)) = had none l (List.range s) ++ had none l [s] := by rw [List.range_succ, had_append]
    have hc : had none l (s :: List.range' (s + 1) n) = had none l [s] ++ had none l (List.range' (s + 1) n) := had_append none l [s] _
    have ih := again_is none l n (s + 1)
    by_cases h : l.getD s 0 = none
    · have e : (l.getD s 0 != none) = false := bne_eq_false_iff_eq.mpr h
      have h0 : had none l [s] = [] := by
        unfold had
        rw [List.filter_cons, e]
        rfl
      rw [e, Bool.false_and, hc, h0, List.nil_append]
      rw [hr, h0, List.append_nil] at ih
      exact ih
    · have e : (l.getD s 0 != none) = true := by simpa using h
      have h0 : had none l [s] = [(s, l.getD s 0)] := by
        unfold had
        rw [List.filter_cons, if_pos e]
        rfl
      rw [e, Bool.true_and, hc, h0, List.singleton_append, range_any l none s h]
      rw [hr, h0, List.map_append] at ih
      show _ = if l.getD s 0 ∈ _ then some s else again _ _
      by_cases hm : l.getD s 0 ∈ (had none l (List.range s)).map fun x => x.2
      · rw [decide_eq_true hm, if_pos hm]
      · rw [decide_eq_false hm, if_neg hm]
        exact ih
theorem twice_is (b : Box) (l : List Nat) : b.twice l = again [] (paired b.none_ l) := by
  have h := again_is b.none_ l l.length 0
  rw [← List.range_eq_range'] at h
  exact h
theorem pairs_is (b : Box) (l : List Nat) : b.pairs l = (paired b.none_ l).length := by
  unfold Box.pairs paired had
  rw [List.length_map]
  have e : l = (List.range l.length).map fun i => l.getD i 0 := by
    apply List.ext_getElem?
    intro i
    rw [List.getElem?_map]
    by_cases h : i < l.length
    · rw [List.getElem?_range h, List.getElem?_eq_getElem h]
      simp [List.getD, List.getElem?_eq_getElem h]
    · rw [List.getElem?_eq_none (by omega), List.getElem?_eq_none (by simpa using h)]
      rfl
  conv => lhs; rw [e]
  rw [List.filter_map, List.length_map]
  rfl
theorem off_is (b : Box) (l : List Nat) : b.off l = ((paired b.none_ l).map fun x => b.differ x.1 x.2).sum := by
  unfold Box.off paired had
  generalize List.range l.length = is
  induction is with
  | nil => rfl
  | cons i is ih =>
    rw [List.map_cons, List.sum_cons, ih, List.filter_cons]
    by_cases h : l.getD i 0 = b.none_
    · have e : (l.getD i 0 != b.none_) = false := bne_eq_false_iff_eq.mpr h
      rw [if_pos h, e, Nat.zero_add]
      rfl
    · have e : (l.getD i 0 != b.none_) = true := by simpa using h
      rw [if_neg h, if_pos e]
      rfl
/-- what stands among them -/
theorem paired_mem {none : Nat} {l : List Nat} {x : Nat × Nat} (h : x ∈ paired none l) : x.1 < l.length ∧ l[x.1]? = some x.2 ∧ x.2 ≠ none := by
  unfold paired had at h
  obtain ⟨i, hi, rfl⟩ := List.mem_map.mp h
  obtain ⟨h1, h2⟩ := List.mem_filter.mp hi
  have h1 := List.mem_range.mp h1
  refine ⟨h1, ?_, by simpa using h2⟩
  show l[i]? = some (l.getD i 0)
  simp [List.getD, List.getElem?_eq_getElem h1]
theorem paired_le (none : Nat) (l : List Nat) : (paired none l).length ≤ l.length := by
  unfold paired had
  rw [List.length_map]
  exact Nat.le_trans (List.length_filter_le _ _) (by simp)
theorem told_iff (b : Box) (l : List Nat) : b.told l = true ↔ l.length = b.lefts.length ∧ ∀ k ∈ l, k ≤ b.rights.length := by
  unfold Box.told
  rw [Bool.and_eq_true, beq_iff_eq, List.all_eq_true]
  exact ⟨fun h => ⟨h.1, fun k hk => of_decide_eq_true (h.2 k hk)⟩, fun h => ⟨h.1, fun k hk => decide_eq_true (h.2 k hk)⟩⟩
end Gp
namespace Gp
open Si90
/-! ### all rows -/
theorem mem_rows (k : Nat) : ∀ (n : Nat) (l : List Nat), l ∈ rows k n ↔ l.length = n ∧ ∀ x ∈ l, x ≤ k
  | 0, l => by
    show l ∈ [[]] ↔ _
    rw [List.mem_singleton]
    exact ⟨fun h => by subst h; exact ⟨rfl, by simp⟩, fun h => List.eq_nil_of_length_eq_zero h.1⟩
  | n + 1, l => by
    show l ∈ (List.range (k + 1)).flatMap (fun t => (rows k n).map fun l => t :: l) ↔ _
    rw [List.mem_flatMap]
    constructor
    · rintro ⟨t, ht, hl⟩
      obtain ⟨r, hr, rfl⟩ := List.mem_map.mp hl
      obtain ⟨h1, h2⟩ := (mem_rows k n r).mp hr
      refine ⟨by rw [List.length_cons, h1], fun x hx => ?_⟩
      rcases List.mem_cons.mp hx with rfl | hx
      · have := List.mem_range.mp ht
        omega
      · exact h2 x hx
    · rintro ⟨h1, h2⟩
      cases l with
      | nil => simp at h1
      | cons t r =>
        refine ⟨t, List.mem_range.mpr ?_, List.mem_map.mpr ⟨r, (mem_rows k n r).mpr ⟨by simpa using h1, fun x hx => h2 x (List.mem_cons_of_mem _ hx)⟩, rfl⟩⟩
        have := h2 t List.mem_cons_self
        omega
/-- rows told from the end on -/
theorem rows_snoc (k : Nat) : ∀ n : Nat, rows k (n + 1) = (rows k n).flatMap fun l => (List.range (k + 1)).map fun t => l ++ [t]
  | 0 => by
    show (List.range (k + 1)).flatMap (fun t => [[t]]) = [[]].flatMap _
    rw [List.flatMap_singleton, List.flatMap_def]
    generalize List.range (k + 1) = r
    induction r with
    | nil => rfl
    | cons a r ih =>
      rw [List.map_cons, List.flatten_cons, ih]
      rfl
  | n + 1 => by
    have ih := rows_snoc k n
    show (List.range (k + 1)).flatMap (fun t => (rows k (n + 1)).map fun l => t :: l) = ((List.range (k + 1)).flatMap fun t => (rows k n).map fun l => t :: l).flatMap _
    rw [List.flatMap_assoc]
    congr 1
    funext t
    rw [ih, List.map_flatMap, List.flatMap_map]
    congr 1
    funext l
    rw [List.map_map]
    rfl
/-! ### which can be -/
theorem can_iff (b : Box) (l : List Nat) : b.can l = true ↔ b.told l = true ∧ b.bad l = none ∧ b.twice l = none := by
  unfold Box.can
  rw [Bool.and_eq_true, Bool.and_eq_true, Option.isNone_iff_eq_none, Option.isNone_iff_eq_none]
theorem mem_plans (b : Box) (l : List Nat) : l ∈ b.plans ↔ b.can l = true := by
  unfold Box.plans
  rw [List.mem_filter, mem_rows]
  constructor
  · exact fun h => h.2
  · intro h
    have h1 := (told_iff b l).mp ((can_iff b l).mp h).1
    exact ⟨⟨h1.1, h1.2⟩, h⟩
theorem again_none : ∀ (td : List Nat) (ps : List (Nat × Nat)), again td ps = none ↔ (ps.map (fun x => x.2)).Nodup ∧ ∀ x ∈ ps, x.2 ∉ td
  | td, [] => by simp [again]
  | td, (i, k) :: r => by
    unfold again
    by_cases c : k ∈ td
    · rw [if_pos c]
      refine ⟨fun h => (by cases h), fun h => absurd c (h.2 _ List.mem_cons_self)⟩
    · rw [if_neg c, again_none, List.map_cons, List.nodup_cons]
      constructor
      · rintro ⟨h1, h2⟩
        refine ⟨⟨fun hm => ?_, h1⟩, fun x hx => ?_⟩
        · obtain ⟨x, hx, e⟩ := List.mem_map.mp hm
          exact h2 x hx (by rw [e]; exact List.mem_append_right _ (List.mem_singleton.mpr rfl))
        · rcases List.mem_cons.mp hx with rfl | hx
          · exact c
          · exact fun hh => h2 x hx (List.mem_append_left _ hh)
      · rintro ⟨⟨h1, h2⟩, h3⟩
        refine ⟨h2, fun x hx hm => ?_⟩
        rcases List.mem_append.mp hm with hm | hm
        · exact h3 x (List.mem_cons_of_mem _ hx) hm
        · rw [List.mem_singleton] at hm
          exact h1 (List.mem_map.mpr ⟨x, hx, hm⟩)
theorem twice_none (b : Box) (l : List Nat) : b.twice l = none ↔ ((paired b.none_ l).map (fun x => x.2)).Nodup := by
  rw [twice_is, again_none]
  exact ⟨fun h => h.1, fun h => ⟨h, by simp⟩⟩
theorem bad_none (b : Box) (l : List Nat) : b.bad l = none ↔ ∀ x ∈ paired b.none_ l, b.differ x.1 x.2 ≤ b.limit := by
  rw [bad_is, Option.map_eq_none_iff, List.find?_eq_none]
  constructor
  · intro h x hx
    have := h x hx
    rw [decide_eq_true_eq] at this
    omega
  · intro h x hx
    have := h x hx
    rw [decide_eq_true_eq]
    omega
theorem getD_le {l : List Nat} {m : Nat} (h : ∀ x ∈ l, x ≤ m) (i : Nat) : l.getD i 0 ≤ m := by
  rw [List.getD]
  cases e : l[i]? with
  | none => exact Nat.zero_le _
  | some x => exact h x (List.mem_of_getElem? e)
theorem differ_le {b : Box} (h : Ok b) (i k : Nat) : b.differ i k ≤ 1000 := by
  have h1 := getD_le h.sl i
  have h2 := getD_le h.sr k
  unfold Box.differ apart Box.left Box.right_
  omega
/-! ### best is always there -/
theorem none_can (b : Box) : b.can (List.replicate b.lefts.length b.none_) = true := by
  have e : paired b.none_ (List.replicate b.lefts.length b.none_) = [] := by
    unfold paired had
    rw [List.map_eq_nil_iff, List.filter_eq_nil_iff]
    intro i hi
    rw [List.length_replicate, List.mem_range] at hi
    have : (List.replicate b.lefts.length b.none_).getD i 0 = b.none_ := by
      rw [List.getD, List.getElem?_replicate, if_pos hi]
      rfl
    rw [this]
    simp
  rw [can_iff, told_iff, bad_none, twice_none, e]
  refine ⟨⟨List.length_replicate, fun k hk => ?_⟩, by simp, by simp⟩
  have := List.eq_of_mem_replicate hk
  subst this
  exact Nat.le_refl _
def bestStep (b : Box) (r : Option Best) (l : List Nat) : Option Best := match r with
  | none => some ⟨b.pairs l, b.off l, 1, l⟩
  | some x => if better (b.pairs l) (b.off l) x.pairs x.off = true then some ⟨b.pairs l, b.off l, 1, l⟩ else if b.pairs l = x.pairs ∧ b.off l = x.off then some { x with many := x.many + 1 } else some x
theorem best_is (b : Box) : b.best = b.plans.foldl (bestStep b) none := rfl
theorem bestStep_some (b : Box) (x : Best) (l : List Nat) : ∃ y, bestStep b (some x) l = some y := by
  unfold bestStep
  dsimp only
  split
  · exact ⟨_, rfl⟩
  · split
    · exact ⟨_, rfl⟩
    · exact ⟨_, rfl⟩
theorem foldl_some (b : Box) : ∀ (ls : List (List Nat)) (x : Best), ∃ y, ls.foldl (bestStep b) (some x) = some y
  | [], x => ⟨x, rfl⟩
  | l :: ls, x => by
    obtain ⟨y, e⟩ := bestStep_some b x l
    rw [List.foldl_cons, e]
    exact foldl_some b ls y
theorem best_some (b : Box) : ∃ x, b.best = some x := by
  rw [best_is]
  have h := (mem_plans b _).mpr (none_can b)
  cases e : b.plans with
  | nil =>
    rw [e] at h
    cases h
  | cons l ls =>
    rw [List.foldl_cons]
    exact foldl_some b ls _
/-! ### needs: whether there's a plan -/
def wide (b : Box) : Box := { b with limit := 1000000 }
theorem needs_is (b : Box) (n : Nat) : b.needs n = least (((wide b).plans.filter fun l => decide (n ≤ (wide b).pairs l)).map (wide b).worst) := rfl
theorem least_none : ∀ l : List Nat, least l = none ↔ l = []
  | [] => ⟨fun _ => rfl, fun _ => rfl⟩
  | n :: l => by
    refine ⟨fun h => ?_, fun h => by cases h⟩
    unfold least at h
    split at h <;> cases h
theorem least_some : ∀ (l : List Nat) (m : Nat), least l = some m ↔ m ∈ l ∧ ∀ x ∈ l, m ≤ x
  | [], m => by simp [least]
  | n :: l, m => by
    unfold least
    split
    · rename_i e
      have := (least_none l).mp e
      subst this
      simp
      exact ⟨fun h => ⟨h.symm, by omega⟩, fun h => h.1.symm⟩
    · rename_i k e
      obtain ⟨h1, h2⟩ := (least_some l k).mp e
      constructor
      · intro h
        have h := Option.some.inj h
        subst h
        refine ⟨?_, fun x hx => ?_⟩
        · by_cases c : n ≤ k
          · rw [Nat.min_eq_left c]
            exact List.mem_cons_self
          · rw [Nat.min_eq_right (by omega)]
            exact List.mem_cons_of_mem _ h1
        · rcases List.mem_cons.mp hx with rfl | hx
          · exact Nat.min_le_left _ _
          · exact Nat.le_trans (Nat.min_le_right _ _) (h2 x hx)
      · rintro ⟨h3, h4⟩
        congr 1
        have h5 := h4 n List.mem_cons_self
        have h6 := h4 k (List.mem_cons_of_mem _ h1)
        rcases List.mem_cons.mp h3 with rfl | h3
        · exact Nat.min_eq_left h6
        · have := h2 m h3
          omega
theorem wide_can {b : Box} (h : Ok b) (l : List Nat) : (wide b).can l = true ↔ b.told l = true ∧ b.twice l = none := by
  rw [can_iff]
  constructor
  · exact fun q => ⟨q.1, q.2.2⟩
  · refine fun q => ⟨q.1, (bad_none _ _).mpr fun x _ => ?_, q.2⟩
    exact Nat.le_trans (differ_le h x.1 x.2) (show 1000 ≤ 1000000 by decide)
theorem pairs_le {b : Box} {l : List Nat} (h : b.told l = true) (h2 : b.twice l = none) : b.pairs l ≤ b.lefts.length ∧ b.pairs l ≤ b.rights.length := by
  have ht := (told_iff b l).mp h
  refine ⟨?_, ?_⟩
  · rw [pairs_is, ← ht.1]
    exact paired_le _ _
  · have hn := (twice_none b l).mp h2
    rw [pairs_is, ← List.length_map (f := fun x : Nat × Nat => x.2)]
    refine Nat.le_trans (List.Nodup.length_le_of_subset (l₂ := List.range b.rights.length) hn fun k hk => ?_) (by simp)
    obtain ⟨x, hx, rfl⟩ := List.mem_map.mp hk
    obtain ⟨h3, h4, h5⟩ := paired_mem hx
    have h6 := ht.2 _ (List.mem_of_getElem? h4)
    rw [List.mem_range]
    unfold Box.none_ at h5
    omega
/-- the first n left ones with the first n right ones -/
def line (b : Box) (n : Nat) : List Nat := (List.range b.lefts.length).map fun i => if i < n then i else b.none_
theorem line_get (b : Box) (n i : Nat) (h : i < b.lefts.length) : (line b n).getD i 0 = if i < n then i else b.none_ := by
  unfold line
  rw [List.getD, List.getElem?_map, List.getElem?_range h]
  rfl
theorem line_paired (b : Box) (n : Nat) (h1 : n ≤ b.lefts.length) (h2 : n ≤ b.rights.length) : paired b.none_ (line b n) = (List.range n).map fun i => (i, i) := by
  unfold paired had
  have hl : (line b n).length = n + (b.lefts.length - n) := by
    unfold line
    simp
    omega
  rw [hl, List.range_add, List.filter_append]
  have e1 : (List.range n).filter (fun i => (line b n).getD i 0 != b.none_) = List.range n := by
    rw [List.filter_eq_self]
    intro i hi
    rw [List.mem_range] at hi
    rw [line_get b n i (by omega), if_pos hi, bne_iff_ne]
    unfold Box.none_
    omega
  have e2 : ((List.range (b.lefts.length - n)).map fun x => n + x).filter (fun i => (line b n).getD i 0 != b.none_) = [] := by
    rw [List.filter_eq_nil_iff]
    intro i hi
    obtain ⟨j, hj, rfl⟩ := List.mem_map.mp hi
    rw [List.mem_range] at hj
    rw [line_get b n (n + j) (by omega), if_neg (by omega)]
    simp
  rw [e1, e2, List.append_nil]
  apply List.map_congr_left
  intro i hi
  rw [List.mem_range] at hi
  rw [line_get b n i (by omega), if_pos hi]
theorem line_ok {b : Box} {n : Nat} (h1 : n ≤ b.lefts.length) (h2 : n ≤ b.rights.length) : b.told (line b n) = true ∧ b.twice (line b n) = none ∧ b.pairs (line b n) = n := by
  have e := line_paired b n h1 h2
  refine ⟨(told_iff _ _).mpr ⟨by unfold line; simp, fun k hk => ?_⟩, ?_, ?_⟩
  · unfold line at hk
    obtain ⟨i, _, rfl⟩ := List.mem_map.mp hk
    split
    · omega
    · exact Nat.le_refl _
  · rw [twice_none, e, List.map_map]
    have : ((fun x : Nat × Nat => x.2) ∘ fun i : Nat => (i, i)) = id := rfl
    rw [this, List.map_id]
    exact List.nodup_range
  · rw [pairs_is, e]
    simp
theorem needs_none {b : Box} (h : Ok b) (n : Nat) : b.needs n = none ↔ (b.lefts.length < n ∨ b.rights.length < n) := by
  rw [needs_is, least_none, List.map_eq_nil_iff, List.filter_eq_nil_iff]
  constructor
  · intro q
    by_cases c : b.lefts.length < n ∨ b.rights.length < n
    · exact c
    · obtain ⟨a1, a2, a3⟩ := line_ok (b := b) (n := n) (by omega) (by omega)
      have := q (line b n) ((mem_plans _ _).mpr ((wide_can h _).mpr ⟨a1, a2⟩))
      exact absurd (decide_eq_true (show n ≤ (wide b).pairs (line b n) from Nat.le_of_eq a3.symm)) this
  · intro q l hl hn
    obtain ⟨a1, a2⟩ := (wide_can h l).mp ((mem_plans _ _).mp hl)
    have := pairs_le a1 a2
    have hn : n ≤ b.pairs l := of_decide_eq_true hn
    omega
/-! ### from the smallest on -/
def before (l : List Nat) (i k : Nat) : Bool := decide (l.getD i 0 < l.getD k 0) || (l.getD i 0 == l.getD k 0 && decide (i ≤ k))
theorem before_iff (l : List Nat) (i k : Nat) : before l i k = true ↔ l.getD i 0 < l.getD k 0 ∨ (l.getD i 0 = l.getD k 0 ∧ i ≤ k) := by
  unfold before
  rw [Bool.or_eq_true, Bool.and_eq_true, decide_eq_true_eq, decide_eq_true_eq, beq_iff_eq]
theorem sorted_is (l : List Nat) : sorted l = (List.range l.length).mergeSort (before l) := rfl
theorem sorted_perm (l : List Nat) : (sorted l).Perm (List.range l.length) := by
  rw [sorted_is]
  exact List.mergeSort_perm _ _
theorem sorted_rise (l : List Nat) : (sorted l).Pairwise fun i k => before l i k = true := by
  rw [sorted_is]
  refine List.pairwise_mergeSort (fun a c d h1 h2 => ?_) (fun a c => ?_) _
  · rw [before_iff] at h1 h2 ⊢
    omega
  · rw [Bool.or_eq_true, before_iff, before_iff]
    omega
/-- whatever is in that order is it -/
theorem sorted_one {l r : List Nat} (h1 : r.Perm (List.range l.length)) (h2 : r.Pairwise fun i k => l.getD i 0 < l.getD k 0 ∨ (l.getD i 0 = l.getD k 0 ∧ i ≤ k)) : r = sorted l := by
  refine List.Perm.eq_of_pairwise (le := fun i k => before l i k = true) (fun a c _ _ p q => ?_) (h2.imp fun h => (before_iff _ _ _).mpr h) (sorted_rise l) (h1.trans (sorted_perm l).symm)
  rw [before_iff] at p q
  omega
theorem sorted_mem {l : List Nat} {i : Nat} (h : i ∈ sorted l) : i < l.length := List.mem_range.mp ((sorted_perm l).mem_iff.mp h)
theorem sorted_len (l : List Nat) : (sorted l).length = l.length := by
  rw [(sorted_perm l).length_eq, List.length_range]
theorem sorted_nodup (l : List Nat) : (sorted l).Nodup := (sorted_perm l).nodup_iff.mpr List.nodup_range
/-- without the first number -/
theorem plainFrom_more (b : Box) : ∀ (f g : Nat) (l r : List Nat), l.length + r.length ≤ f → l.length + r.length ≤ g → b.plainFrom f l r = b.plainFrom g l r
  | 0, g, l, r, h, _ => by
    have h1 : l = [] := List.eq_nil_of_length_eq_zero (by omega)
    subst h1
    cases g <;> rfl
  | f + 1, 0, l, r, _, h => by
    have h1 : l = [] := List.eq_nil_of_length_eq_zero (by omega)
    subst h1
    rfl
  | f + 1, g + 1, [], r, _, _ => rfl
  | f + 1, g + 1, i :: l, [], _, _ => rfl
  | f + 1, g + 1, i :: l, k :: r, h1, h2 => by
    simp only [List.length_cons] at h1 h2
    show (if b.differ i k ≤ b.limit then (i, k) :: b.plainFrom f l r else if b.left i < b.right_ k then b.plainFrom f l (k :: r) else b.plainFrom f (i :: l) r) = (if b.differ i k ≤ b.limit then (i, k) :: b.plainFrom g l r else if b.left i < b.right_ k then b.plainFrom g l (k :: r) else b.plainFrom g (i :: l) r)
    rw [plainFrom_more b f g l r (by omega) (by omega), plainFrom_more b f g l (k :: r) (by simp; omega) (by simp; omega), plainFrom_more b f g (i :: l) r (by simp; omega) (by simp; omega)]
/-- from there on, as many turns as it takes -/
def meets (b : Box) (l r : List Nat) : List (Nat × Nat) := b.plainFrom (l.length + r.length) l r
theorem meets_nil_left (b : Box) (r : List Nat) : meets b [] r = [] := by
  unfold meets
  cases ([] : List Nat).length + r.length <;> rfl
theorem meets_nil_right (b : Box) (l : List Nat) : meets b l [] = [] := by
  unfold meets
  cases l with
  | nil => rfl
  | cons i l => rfl
theorem meets_cons (b : Box) (i k : Nat) (l r : List Nat) : meets b (i :: l) (k :: r) = if b.differ i k ≤ b.limit then (i, k) :: meets b l r else if b.left i < b.right_ k then meets b l (k :: r) else meets b (i :: l) r := by
  unfold meets
  have e : (i :: l).length + (k :: r).length = (l.length + r.length + 1) + 1 := by simp; omega
  rw [e]
  show (if b.differ i k ≤ b.limit then (i, k) :: b.plainFrom (l.length + r.length + 1) l r else if b.left i < b.right_ k then b.plainFrom (l.length + r.length + 1) l (k :: r) else b.plainFrom (l.length + r.length + 1) (i :: l) r) = _
  rw [plainFrom_more b (l.length + r.length + 1) (l.length + r.length) l r (by omega) (by omega), plainFrom_more b (l.length + r.length + 1) (l.length + (k :: r).length) l (k :: r) (by simp; omega) (by omega), plainFrom_more b (l.length + r.length + 1) ((i :: l).length + r.length) (i :: l) r (by simp; omega) (by omega)]
theorem meets_mem (b : Box) : ∀ (n : Nat) (l r : List Nat), l.length + r.length ≤ n → ∀ x ∈ meets b l r, x.1 ∈ l ∧ x.2 ∈ r
  | _, [], r, _, x, h => by
    rw [meets_nil_left] at h
    cases h
  | _, i :: l, [], _, x, h => by
    rw [meets_nil_right] at h
    cases h
  | 0, i :: l, k :: r, h0, x, h => by simp at h0
  | n + 1, i :: l, k :: r, h0, x, h => by
    simp only [List.length_cons] at h0
    rw [meets_cons] at h
    split at h
    · rcases List.mem_cons.mp h with rfl | h
      · exact ⟨List.mem_cons_self, List.mem_cons_self⟩
      · obtain ⟨p, q⟩ := meets_mem b n l r (by omega) x h
        exact ⟨List.mem_cons_of_mem _ p, List.mem_cons_of_mem _ q⟩
    · split at h
      · obtain ⟨p, q⟩ := meets_mem b n l (k :: r) (by simp; omega) x h
        exact ⟨List.mem_cons_of_mem _ p, q⟩
      · obtain ⟨p, q⟩ := meets_mem b n (i :: l) r (by simp; omega) x h
        exact ⟨p, List.mem_cons_of_mem _ q⟩
/-- a plan after so many pairs are told -/
def putAll (none n : Nat) (ps : List (Nat × Nat)) : List Nat := (List.range n).map fun i => ((ps.find? fun x => x.1 == i).map fun x => x.2).getD none
theorem plain_is (b : Box) : b.plain = putAll b.none_ b.lefts.length (meets b (sorted b.lefts) (sorted b.rights)) := by
  unfold Box.plain meets putAll
  rw [sorted_len, sorted_len]
theorem putAll_nil (none n : Nat) : putAll none n [] = List.replicate n none := by
  unfold putAll
  apply List.ext_getElem
  · simp
  · intro i h1 h2
    simp
theorem putAll_len (none n : Nat) (ps : List (Nat × Nat)) : (putAll none n ps).length = n := by
  unfold putAll
  simp
theorem putAll_snoc (none n : Nat) (ps : List (Nat × Nat)) (i k : Nat) (h : ∀ x ∈ ps, x.1 ≠ i) (hi : i < n) : putAll none n (ps ++ [(i, k)]) = (putAll none n ps).set i k := by
  unfold putAll
  apply List.ext_getElem
  · simp
  · intro j h1 h2
    rw [List.getElem_set]
    simp only [List.getElem_map, List.getElem_range, List.find?_append]
    by_cases c : i = j
    · subst c
      rw [if_pos rfl]
      have : ps.find? (fun x => x.1 == i) = Option.none := by
        rw [List.find?_eq_none]
        intro x hx
        have := h x hx
        simp [this]
      rw [this]
      simp
    · rw [if_neg c]
      have : [(i, k)].find? (fun x => x.1 == j) = Option.none := by simp [c]
      rw [this, Option.or_none]
end Gp
namespace Gp
open Si90
/-! ### the plans, as they're made one left one after another -/
/-- no two that are told together differ by more than they may, no right one is told twice -/
def fits (b : Box) (l : List Nat) : Bool := (b.bad l).isNone && (b.twice l).isNone
theorem fits_iff (b : Box) (l : List Nat) : fits b l = true ↔ (∀ x ∈ paired b.none_ l, b.differ x.1 x.2 ≤ b.limit) ∧ ((paired b.none_ l).map (fun x => x.2)).Nodup := by
  unfold fits
  rw [Bool.and_eq_true, Option.isNone_iff_eq_none, Option.isNone_iff_eq_none, bad_none, twice_none]
def begun (b : Box) (i : Nat) : List (List Nat) := (rows b.none_ i).filter (fits b)
/-- the right ones that a left one may have behind l, and how many fit -/
def free (b : Box) (l : List Nat) : List Nat := (List.range b.none_).filter fun t => decide (t ∉ l)
def chosen (b : Box) (i : Nat) (l : List Nat) : List Nat := (free b l).filter (fun t => decide (b.differ i t ≤ b.limit)) ++ [b.none_]
theorem paired_snoc (none : Nat) (l : List Nat) (t : Nat) : paired none (l ++ [t]) = paired none l ++ (if t = none then [] else [(l.length, t)]) := by
  unfold paired
  rw [List.length_append, List.length_singleton, List.range_succ, had_append]
  have e1 : had none (l ++ [t]) (List.range l.length) = had none l (List.range l.length) := by
    unfold had
    have e : ∀ i ∈ List.range l.length, (l ++ [t]).getD i 0 = l.getD i 0 := fun i hi => by
      rw [List.mem_range] at hi
      rw [List.getD, List.getElem?_append_left hi, List.getD]
    rw [List.filter_congr (fun i hi => by rw [e i hi] : ∀ i ∈ List.range l.length, _)]
    exact List.map_congr_left fun i hi => by rw [e i (List.mem_filter.mp hi).1]
  have e2 : (l ++ [t]).getD l.length 0 = t := by
    rw [List.getD, List.getElem?_append_right (Nat.le_refl _), Nat.sub_self]
    rfl
  rw [e1]
  congr 1
  unfold had
  by_cases c : t = none
  · rw [if_pos c, List.filter_cons, e2, bne_eq_false_iff_eq.mpr c]
    rfl
  · rw [if_neg c, List.filter_cons, e2, if_pos (bne_iff_ne.mpr c), List.filter_nil, List.map_cons, e2]
    rfl
theorem paired_has {none : Nat} {l : List Nat} {t : Nat} (h : t ≠ none) : t ∈ (paired none l).map (fun x => x.2) ↔ t ∈ l := by
  constructor
  · intro hm
    obtain ⟨x, hx, rfl⟩ := List.mem_map.mp hm
    exact List.mem_of_getElem? (paired_mem hx).2.1
  · intro hm
    obtain ⟨i, hi, e⟩ := List.getElem_of_mem hm
    refine List.mem_map.mpr ⟨(i, t), ?_, rfl⟩
    unfold paired had
    have eg : l.getD i 0 = t := by
      rw [List.getD, List.getElem?_eq_getElem hi, e]
      rfl
    refine List.mem_map.mpr ⟨i, List.mem_filter.mpr ⟨List.mem_range.mpr hi, ?_⟩, by rw [eg]⟩
    rw [eg]
    exact bne_iff_ne.mpr h
theorem fits_snoc (b : Box) (l : List Nat) (t : Nat) : fits b (l ++ [t]) = true ↔ fits b l = true ∧ (t = b.none_ ∨ (b.differ l.length t ≤ b.limit ∧ t ∉ l)) := by
  rw [fits_iff, fits_iff, paired_snoc]
  by_cases c : t = b.none_
  · rw [if_pos c, List.append_nil]
    exact ⟨fun h => ⟨h, .inl c⟩, fun h => h.1⟩
  · rw [if_neg c, List.map_append, List.nodup_append]
    constructor
    · rintro ⟨h1, h2, _, h4⟩
      refine ⟨⟨fun x hx => h1 x (List.mem_append_left _ hx), h2⟩, .inr ⟨h1 (l.length, t) (List.mem_append_right _ (List.mem_singleton.mpr rfl)), fun hm => ?_⟩⟩
      exact h4 t ((paired_has c).mpr hm) t (List.mem_singleton.mpr rfl) rfl
    · rintro ⟨⟨h1, h2⟩, h3⟩
      rcases h3 with h3 | ⟨h3, h4⟩
      · exact absurd h3 c
      · refine ⟨fun x hx => ?_, h2, by simp, fun x hx y hy e => ?_⟩
        · rcases List.mem_append.mp hx with hx | hx
          · exact h1 x hx
          · rw [List.mem_singleton] at hx
            subst hx
            exact h3
        · rw [List.map_singleton, List.mem_singleton] at hy
          subst hy
          subst e
          exact h4 ((paired_has c).mp hx)
theorem begun_zero (b : Box) : begun b 0 = [[]] := by
  unfold begun rows
  rw [List.filter_cons, if_pos ((fits_iff b []).mpr ⟨fun x hx => (by simp [paired, had] at hx), by simp [paired, had]⟩)]
  rfl
theorem filter_flatMap' {α β : Type} (p : β → Bool) (f : α → List β) : ∀ l : List α, (l.flatMap f).filter p = l.flatMap fun a => (f a).filter p
  | [] => rfl
  | a :: l => by
    rw [List.flatMap_cons, List.filter_append, filter_flatMap' p f l, List.flatMap_cons]
theorem flatMap_filter' {α β : Type} (p : α → Bool) (f : α → List β) : ∀ l : List α, (l.filter p).flatMap f = l.flatMap fun a => if p a = true then f a else []
  | [] => rfl
  | a :: l => by
    rw [List.flatMap_cons, ← flatMap_filter' p f l, List.filter_cons]
    by_cases c : p a = true
    · rw [if_pos c, if_pos c, List.flatMap_cons]
    · rw [if_neg c, if_neg c]
      rfl
theorem flatMap_congr' {α β : Type} {f g : α → List β} : ∀ {l : List α}, (∀ a ∈ l, f a = g a) → l.flatMap f = l.flatMap g
  | [], _ => rfl
  | a :: l, h => by
    rw [List.flatMap_cons, List.flatMap_cons, h a List.mem_cons_self, flatMap_congr' fun c hc => h c (List.mem_cons_of_mem _ hc)]
theorem begun_succ (b : Box) (i : Nat) : begun b (i + 1) = (begun b i).flatMap fun l => (chosen b i l).map fun t => l ++ [t] := by
  unfold begun
  rw [rows_snoc, filter_flatMap', flatMap_filter']
  refine flatMap_congr' fun l hl => ?_
  have hlen := ((mem_rows _ _ _).mp hl).1
  have e : ((List.range (b.none_ + 1)).map fun t => l ++ [t]).filter (fits b) = ((List.range (b.none_ + 1)).filter fun t => fits b (l ++ [t])).map fun t => l ++ [t] := by
    rw [List.filter_map]
    rfl
  rw [e]
  by_cases c : fits b l = true
  · rw [if_pos c]
    congr 1
    unfold chosen free
    rw [List.range_succ, List.filter_append, List.filter_filter]
    congr 1
    · refine List.filter_congr fun t ht => ?_
      rw [List.mem_range] at ht
      rw [Bool.eq_iff_iff, fits_snoc, Bool.and_eq_true, decide_eq_true_eq, decide_eq_true_eq, hlen]
      constructor
      · rintro ⟨_, h | h⟩
        · omega
        · exact h
      · exact fun h => ⟨c, .inr h⟩
    · rw [List.filter_cons, if_pos ((fits_snoc b l b.none_).mpr ⟨c, .inl rfl⟩)]
      rfl
  · rw [if_neg c, List.map_eq_nil_iff, List.filter_eq_nil_iff]
    intro t _ h
    exact c ((fits_snoc b l t).mp h).1
theorem begun_all (b : Box) : begun b b.lefts.length = b.plans := by
  unfold begun Box.plans
  refine List.filter_congr fun l hl => ?_
  have h := (mem_rows _ _ _).mp hl
  have ht : b.told l = true := (told_iff b l).mpr ⟨h.1, h.2⟩
  unfold Box.can
  rw [ht]
  rfl
theorem begun_mem {b : Box} {i : Nat} {l : List Nat} (h : l ∈ begun b i) : l.length = i ∧ ∀ x ∈ l, x ≤ b.none_ := (mem_rows _ _ _).mp (List.mem_filter.mp h).1
theorem rows_len' (k : Nat) : ∀ n : Nat, (rows k n).length = (k + 1) ^ n
  | 0 => rfl
  | n + 1 => by
    have e : ∀ r : List Nat, (r.flatMap fun t => (rows k n).map fun l => t :: l).length = r.length * (rows k n).length := by
      intro r
      induction r with
      | nil => simp
      | cons a r ih => rw [List.flatMap_cons, List.length_append, ih, List.length_map, List.length_cons, Nat.succ_mul, Nat.add_comm]
    show ((List.range (k + 1)).flatMap fun t => (rows k n).map fun l => t :: l).length = _
    rw [e, rows_len' k n, List.length_range, Nat.pow_succ, Nat.mul_comm]
theorem begun_few {b : Box} (h : b.lefts.length ≤ 5) (h2 : b.rights.length ≤ 5) {i : Nat} (hi : i ≤ b.lefts.length) : (begun b i).length ≤ 7776 := by
  unfold begun
  refine Nat.le_trans (List.length_filter_le _ _) ?_
  rw [rows_len']
  unfold Box.none_
  refine Nat.le_trans (Nat.pow_le_pow_left (show b.rights.length + 1 ≤ 6 by omega) i) ?_
  exact Nat.le_trans (Nat.pow_le_pow_right (by decide) (show i ≤ 5 by omega)) (by decide)
/-- the box, but for how much a pair may differ -/
def at_ (b : Box) (d : Nat) : Box := { b with limit := d }
theorem wide_plans {b : Box} (h : Ok b) : (wide b).plans = (at_ b 1000).plans := by
  show (rows b.none_ b.lefts.length).filter (wide b).can = (rows b.none_ b.lefts.length).filter (at_ b 1000).can
  refine List.filter_congr fun l _ => ?_
  rw [Bool.eq_iff_iff, wide_can h, can_iff]
  constructor
  · exact fun q => ⟨q.1, (bad_none _ _).mpr fun x _ => differ_le h x.1 x.2, q.2⟩
  · exact fun q => ⟨q.1, q.2.2⟩
/-! ### the best -/
structure Good (b : Box) (L : List (List Nat)) (x : Best) : Prop where
  up : ∀ l ∈ L, b.pairs l < x.pairs ∨ (b.pairs l = x.pairs ∧ x.off ≤ b.off l)
  g : ∃ g : List (List Nat), (L.filter fun l => b.pairs l == x.pairs && b.off l == x.off) = g ∧ g.length = x.many ∧ g.head? = some x.row
theorem better_iff (a b c d : Nat) : better a b c d = true ↔ c < a ∨ (a = c ∧ b < d) := by
  unfold better
  rw [Bool.or_eq_true, Bool.and_eq_true, decide_eq_true_eq, decide_eq_true_eq, beq_iff_eq]
theorem good_step {b : Box} {L : List (List Nat)} {x : Best} (h : Good b L x) (l : List Nat) : ∃ y, bestStep b (some x) l = some y ∧ Good b (L ++ [l]) y := by
  obtain ⟨up, g, hg, h1, h2⟩ := h
  unfold bestStep
  dsimp only
  by_cases c : better (b.pairs l) (b.off l) x.pairs x.off = true
  · rw [if_pos c]
    rw [better_iff] at c
    refine ⟨_, rfl, fun m hm => ?_, _, rfl, ?_⟩
    · dsimp only
      rcases List.mem_append.mp hm with hm | hm
      · have := up m hm
        omega
      · rw [List.mem_singleton] at hm
        subst hm
        exact .inr ⟨rfl, Nat.le_refl _⟩
    · dsimp only
      have e0 : (L.filter fun m => b.pairs m == b.pairs l && b.off m == b.off l) = [] := by
        rw [List.filter_eq_nil_iff]
        intro m hm q
        rw [Bool.and_eq_true, beq_iff_eq, beq_iff_eq] at q
        have := up m hm
        omega
      rw [List.filter_append, e0, List.nil_append, List.filter_cons, if_pos (by simp)]
      exact ⟨rfl, rfl⟩
  · rw [if_neg c]
    rw [better_iff] at c
    by_cases c2 : b.pairs l = x.pairs ∧ b.off l = x.off
    · rw [if_pos c2]
      refine ⟨_, rfl, fun m hm => ?_, _, rfl, ?_⟩
      · dsimp only
        rcases List.mem_append.mp hm with hm | hm
        · exact up m hm
        · rw [List.mem_singleton] at hm
          subst hm
          exact .inr ⟨c2.1, by omega⟩
      · dsimp only
        rw [List.filter_append, hg, List.filter_cons, if_pos (by rw [c2.1, c2.2]; simp), List.length_append, h1]
        refine ⟨rfl, ?_⟩
        cases g with
        | nil => cases h2
        | cons a g => exact h2
    · rw [if_neg c2]
      refine ⟨_, rfl, fun m hm => ?_, _, rfl, ?_⟩
      · rcases List.mem_append.mp hm with hm | hm
        · exact up m hm
        · rw [List.mem_singleton] at hm
          subst hm
          omega
      · rw [List.filter_append, hg, List.filter_cons, if_neg (by
          rw [Bool.and_eq_true, beq_iff_eq, beq_iff_eq]
          exact c2), List.filter_nil, List.append_nil]
        exact ⟨h1, h2⟩
theorem good_one (b : Box) (l : List Nat) : Good b [l] ⟨b.pairs l, b.off l, 1, l⟩ := by
  refine ⟨fun m hm => ?_, _, rfl, ?_⟩
  · rw [List.mem_singleton] at hm
    subst hm
    exact .inr ⟨rfl, Nat.le_refl _⟩
  · rw [List.filter_cons, if_pos (by simp)]
    exact ⟨rfl, rfl⟩
theorem good_fold {b : Box} : ∀ (M L : List (List Nat)) (x : Best), Good b L x → ∃ y, M.foldl (bestStep b) (some x) = some y ∧ Good b (L ++ M) y
  | [], L, x, h => ⟨x, rfl, by rw [List.append_nil]; exact h⟩
  | l :: M, L, x, h => by
    obtain ⟨y, e, hy⟩ := good_step h l
    obtain ⟨z, e2, hz⟩ := good_fold M (L ++ [l]) y hy
    refine ⟨z, by rw [List.foldl_cons, e, e2], ?_⟩
    rw [List.append_assoc] at hz
    exact hz
theorem plans_some (b : Box) : ∃ l L, b.plans = l :: L := by
  have h := (mem_plans b _).mpr (none_can b)
  cases e : b.plans with
  | nil =>
    rw [e] at h
    cases h
  | cons l L => exact ⟨l, L, rfl⟩
theorem best_good (b : Box) : ∃ x, b.best = some x ∧ Good b b.plans x := by
  obtain ⟨l, L, e⟩ := plans_some b
  obtain ⟨y, e2, hy⟩ := good_fold L [l] _ (good_one b l)
  refine ⟨y, ?_, ?_⟩
  · rw [best_is, e, List.foldl_cons]
    exact e2
  · rw [e]
    exact hy
theorem good_has {b : Box} {L : List (List Nat)} {x : Best} (h : Good b L x) : x.row ∈ L ∧ b.pairs x.row = x.pairs ∧ b.off x.row = x.off := by
  obtain ⟨_, g, hg, h1, h2⟩ := h
  have hm : x.row ∈ g := List.mem_of_mem_head? h2
  rw [← hg, List.mem_filter, Bool.and_eq_true, beq_iff_eq, beq_iff_eq] at hm
  exact ⟨hm.1, hm.2.1, hm.2.2⟩
/-- the most -/
theorem good_most {b : Box} {L : List (List Nat)} {x : Best} (h : Good b L x) {m : Nat} (h1 : m ∈ L.map b.pairs) (h2 : ∀ k ∈ L.map b.pairs, k ≤ m) : m = x.pairs := by
  obtain ⟨l, hl, e⟩ := List.mem_map.mp h1
  obtain ⟨a1, a2, _⟩ := good_has h
  have := h2 _ (List.mem_map.mpr ⟨_, a1, rfl⟩)
  have := h.up l hl
  omega
def full (b : Box) (L : List (List Nat)) (m : Nat) : List (List Nat) := L.filter fun l => b.pairs l == m
theorem good_least {b : Box} {L : List (List Nat)} {x : Best} (h : Good b L x) {m : Nat} (h1 : m ∈ (full b L x.pairs).map b.off) (h2 : ∀ k ∈ (full b L x.pairs).map b.off, m ≤ k) : m = x.off := by
  obtain ⟨l, hl, e⟩ := List.mem_map.mp h1
  obtain ⟨a1, a2, a3⟩ := good_has h
  have hx := h2 _ (List.mem_map.mpr ⟨x.row, List.mem_filter.mpr ⟨a1, by rw [a2]; exact beq_self_eq_true _⟩, rfl⟩)
  obtain ⟨hl1, hl2⟩ := List.mem_filter.mp hl
  rw [beq_iff_eq] at hl2
  have := h.up l hl1
  omega
theorem full_some {b : Box} {L : List (List Nat)} {x : Best} (h : Good b L x) : full b L x.pairs ≠ [] := by
  obtain ⟨a1, a2, _⟩ := good_has h
  intro e
  have : x.row ∈ full b L x.pairs := List.mem_filter.mpr ⟨a1, by rw [a2]; exact beq_self_eq_true _⟩
  rw [e] at this
  cases this
def alike (b : Box) (L : List (List Nat)) (m d : Nat) : List (List Nat) := (full b L m).filter fun l => b.off l == d
theorem alike_is {b : Box} {L : List (List Nat)} {x : Best} (h : Good b L x) : (alike b L x.pairs x.off).length = x.many ∧ (alike b L x.pairs x.off)[0]? = some x.row := by
  obtain ⟨_, g, hg, h1, h2⟩ := h
  unfold alike full
  rw [List.filter_filter]
  have e : (L.filter fun l => (b.off l == x.off) && (b.pairs l == x.pairs)) = g := by
    rw [← hg]
    exact List.filter_congr fun l _ => Bool.and_comm _ _
  rw [e, ← List.head?_eq_getElem?]
  exact ⟨h1, h2⟩
/-! ### needs -/
theorem worst_is (b : Box) (l : List Nat) : b.worst l = ((paired b.none_ l).map fun x => b.differ x.1 x.2).foldl max 0 := by
  unfold Box.worst paired had
  generalize List.range l.length = is
  rw [List.map_map]
  have : ∀ (is : List Nat) (a : Nat), (is.map fun i => if l.getD i 0 = b.none_ then 0 else b.differ i (l.getD i 0)).foldl max a = ((is.filter fun i => l.getD i 0 != b.none_).map ((fun x : Nat × Nat => b.differ x.1 x.2) ∘ fun i => (i, l.getD i 0))).foldl max a := by
    intro is
    induction is with
    | nil => intro a; rfl
    | cons i is ih =>
      intro a
      rw [List.map_cons, List.foldl_cons, ih, List.filter_cons]
      by_cases c : l.getD i 0 = b.none_
      · rw [if_pos c, if_neg (by simp only [bne_iff_ne, ne_eq]; exact fun h => h c), Nat.max_zero]
      · rw [if_neg c, if_pos (bne_iff_ne.mpr c), List.map_cons, List.foldl_cons]
        rfl
  exact this is 0
theorem foldl_max : ∀ (l : List Nat) (a : Nat), a ≤ l.foldl max a ∧ (∀ x ∈ l, x ≤ l.foldl max a) ∧ (l.foldl max a = a ∨ l.foldl max a ∈ l)
  | [], a => ⟨Nat.le_refl _, by simp, .inl rfl⟩
  | y :: l, a => by
    rw [List.foldl_cons]
    obtain ⟨h1, h2, h3⟩ := foldl_max l (max a y)
    refine ⟨by omega, fun x hx => ?_, ?_⟩
    · rcases List.mem_cons.mp hx with rfl | hx
      · omega
      · exact h2 x hx
    · rcases h3 with h3 | h3
      · rw [h3]
        by_cases c : a ≤ y
        · right
          rw [Nat.max_eq_right c]
          exact List.mem_cons_self
        · left
          exact Nat.max_eq_left (by omega)
      · exact .inr (List.mem_cons_of_mem _ h3)
theorem worst_none {b : Box} {l : List Nat} (h : (paired b.none_ l).map (fun x => b.differ x.1 x.2) = []) : b.worst l = 0 := by
  rw [worst_is, h]
  rfl
theorem worst_some {b : Box} {l : List Nat} {m : Nat} (h1 : m ∈ (paired b.none_ l).map fun x => b.differ x.1 x.2) (h2 : ∀ k ∈ (paired b.none_ l).map (fun x => b.differ x.1 x.2), k ≤ m) : b.worst l = m := by
  rw [worst_is]
  obtain ⟨_, a2, a3⟩ := foldl_max ((paired b.none_ l).map fun x => b.differ x.1 x.2) 0
  have := a2 m h1
  rcases a3 with a3 | a3
  · rw [a3] at this ⊢
    omega
  · have := h2 _ a3
    omega
def enough (b : Box) (L : List (List Nat)) (n : Nat) : List (List Nat) := L.filter fun l => decide (n ≤ b.pairs l)
theorem needs_least {b : Box} (h : Ok b) (n m : Nat) (h1 : m ∈ (enough b (at_ b 1000).plans n).map b.worst) (h2 : ∀ k ∈ (enough b (at_ b 1000).plans n).map b.worst, m ≤ k) : b.needs n = some m := by
  rw [needs_is, least_some, wide_plans h]
  exact ⟨h1, h2⟩
theorem enough_some {b : Box} (h : Ok b) {n : Nat} (h1 : n ≤ b.lefts.length) (h2 : n ≤ b.rights.length) : enough b (at_ b 1000).plans n ≠ [] := by
  intro e
  have : b.needs n = none := by
    rw [needs_is, wide_plans h]
    show least ((enough b (at_ b 1000).plans n).map b.worst) = none
    rw [e]
    rfl
  rw [needs_none h] at this
  omega
theorem step_needs_no {b : Box} (h : Ok b) {n : Nat} (c : b.lefts.length < n ∨ b.rights.length < n) : step b (.needs n) = (b, ok (-6)) := by
  show (b, match b.needs n with | none => ok (-6) | some d => ok ((d : Nat) : Int)) = _
  rw [(needs_none h n).mpr c]
theorem step_needs_yes {b : Box} {n m : Nat} (h : b.needs n = some m) : step b (.needs n) = (b, ok ((m : Nat) : Int)) := by
  show (b, match b.needs n with | none => ok (-6) | some d => ok ((d : Nat) : Int)) = _
  rw [h]
theorem step_best {b : Box} {x : Best} (h : b.best = some x) : step b .best = (b, ⟨((x.pairs : Nat) : Int), Si90.ints (x.off :: x.many :: x.row)⟩) := by
  show (b, match b.best with | none => ok (-6) | some x => (⟨((x.pairs : Nat) : Int), Si90.ints (x.off :: x.many :: x.row)⟩ : Ans)) = _
  rw [h]
end Gp
/-! ### max(xs, default=d) of a list of whole numbers: a rule over the layer -/
namespace Gp
open PySem PySem.Spec PyProof.Rows L2
section
variable {prog : Program} {w : World} {A : Around} {E : Value → Shared → Prop} {s : Shared} {l : Addr} {its : List Value} {ns : List Int} {Q : Value → Shared → Prop} {d : Value}
theorem maxD_raw (hh : A.handled = none) (hl : s.heap.IsList l its.toArray) (hi : IntsAre its ns)
    (h0 : ns = [] → ∀ h' tk, (∀ b o, s.heap.get? b = some o → h'.get? b = some o) → Q d { s with heap := h', toks := tk })
    (h1 : ns ≠ [] → ∀ h' tk M t', (∀ b o, s.heap.get? b = some o → h'.get? b = some o) → M ∈ ns → (∀ a, a ∈ ns → a ≤ M) → Q (.int M t') { s with heap := h', toks := tk }) :
    wpAny (model prog w) A (call (.builtin "max") [.ref l] [(Str.ofString "default", d)]) Q E s := by
  obtain ⟨xs, e⟩ := hi.allInts.items
  have hn : numsOf (intItems xs).toList = ns := by rw [← e]; exact hi.numsOf
  rw [nums_intItems] at hn
  subst hn
  rw [e] at hl
  refine call_max_walkD (PySem.W.iter_listW (A := A.in1) hh hl fun s₂ e W st hfp hw hk => ?_)
  refine ⟨_, _, _, _, _, _, _, s.heap, (fun i j => decide (numAt xs i > numAt xs j)), rfl, W, st, hfp, hw, hk, fun hz s' m => ?_, fun hp => ⟨fun i j vi vj s3 Q3 E3 _ hi hj hQ => CmpOf.ints_gt (A := A.in1) (numAt xs) (fun _ _ => intItems_at) i j vi vj s3 Q3 E3 hi hj hQ, fun v s' hP m => ?_⟩⟩
  · obtain ⟨h', tk, rfl, hk'⟩ := PySem.W.moved_old e rfl m
    refine h0 ?_ h' tk hk'
    have : xs.size = 0 := by simpa [intItems] using hz
    have : xs = #[] := Array.eq_empty_of_size_eq_zero this
    subst this
    rfl
  · obtain ⟨h', tk, rfl, hk'⟩ := PySem.W.moved_old e rfl m
    have hsz : 0 < xs.size := by simpa [intItems] using hp
    have es : (intItems xs).size = xs.size := by simp [intItems]
    rw [es] at hP
    obtain ⟨t, rfl⟩ := intItems_at hP
    obtain ⟨q1, q2⟩ := argBest_gt (numAt xs) (xs.size - 1)
    refine h1 ?_ h' tk _ t hk' ?_ fun a ha => ?_
    · intro z
      have this := congrArg List.length z
      rw [List.length_map, Array.length_toList, List.length_nil] at this
      omega
    · rw [numAt_eq]; exact PySem.getD_mem (by rw [List.length_map, Array.length_toList]; omega)
    · obtain ⟨j, hj, rfl⟩ := mem_getD ha
      rw [List.length_map, Array.length_toList] at hj
      rw [← numAt_eq]; exact q2 j (by omega)
end
def rMaxD (K : PySem.W.Frag) : List V → List V → Hp → VK → Prop := fun vs zs H Q => ∃ (a : Addr) (ns : List Int) (d : Int), vs = [V.ref a] ∧ zs = [V.int d] ∧ SqL K H a (ns.map V.int) ∧
  (ns = [] → Q (.int d) H) ∧ (ns ≠ [] → ∀ m, m ∈ ns → (∀ y, y ∈ ns → y ≤ m) → Q (.int m) H)
theorem cr_maxDef {X : Cx} (hc : X.calm = true) : CallRK X (.builtin "max") [Str.ofString "default"] (rMaxD X.K) := by
  intro pins s σ H vs zs us ws Q I r rz h
  obtain ⟨a, ns, d, rfl, rfl, hs, q0, q1⟩ := h
  obtain rfl := Vals.ref1 r
  obtain ⟨w1, rfl, t, e1⟩ := vals1 rz
  subst e1
  obtain ⟨its, rv, hl, _⟩ := I.list hs
  exact maxD_raw (I.ok.hd hc) hl.isList rv.ints (fun z h' tk hk => ⟨.int _, H, I.kept hk, ⟨_, rfl⟩, q0 z⟩) (fun z h' tk m t' hk h1 h2 => ⟨.int _, H, I.kept hk, ⟨_, rfl⟩, q1 z m h1 h2⟩)
end Gp
/-! ### sorted(range(n), key=lambda i: xs[i]): rules over the layer -/
namespace Gp
open PySem PySem.Spec PyProof.Rows L2 LamX
section
variable {prog : Program} {w : World} {A : Around} {E : Value → Shared → Prop} {s : Shared}
/-- the lambda, called with a number: what stands there -/
theorem lam_call {f c' c a : Addr} {qual x n : Str} {params : Arguments} {scope : Scope} {p1 p2 p3 : Pos} {cl : List (Str × Addr)} {pm ctv : Value} {its : Array Value} {i k : Int} {t t0 : Tok} {Q : Value → Shared → Prop}
    (hroom : A.depth < recursionLimit) (lim : s.heap.NoLimit)
    (hf : s.heap.get? f = some (PySem.W.kla_obj "<lambda>" qual params (.Subscript (.Name x p1) (.Name n p2) p3) scope cl pm c' ctv)) (hcd : s.heap.CodeRec (.ref c') qual)
    (hkind : scope.kind = .function) (hco : scope.isCoroutine = false) (hgen : scope.isGenerator = false) (hcell : ∀ y ∈ scope.names, y.2 ≠ .cell)
    (hx : scope.names.lookup x = some .free) (hn : scope.names.lookup n = some .local)
    (hbind : bindArgs (PySem.W.kla_fn "<lambda>" qual params (.Subscript (.Name x p1) (.Name n p2) p3) scope cl pm (.ref c') ctv) ⟨[.int i t0], []⟩ = pure [(n, .int i t0)])
    (hc : cl.lookup x = some c) (hv : s.heap.IsCell c (some (.ref a))) (hl : s.heap.IsList a its) (h0 : 0 ≤ i) (hfit : i < 2 ^ 63) (hi : its[i.toNat]? = some (.int k t))
    (hd1 : (x == ("__debug__" : Str)) = false) (hd2 : (x == ("__classdict__" : Str)) = false) (hd3 : (n == ("__debug__" : Str)) = false)
    (h : ∀ h' tk, (∀ b o, s.heap.get? b = some o → h'.get? b = some o) → Q (.int k t) { s with heap := h', toks := tk }) :
    wpAny (model prog w) A (call (.ref f) [.int i t0]) Q E s := by
  refine wpAny_call (PySem.W.kla_callFunE hroom hf rfl hco hgen rfl hcd ?_)
  rw [hbind]
  refine wpAny_pure (wpAny_newFunctionEnv hcell (fun y hy => ?_) (fun h₁ hns hsb => ⟨lim.fresh _ hsb, ?_⟩) hkind)
  · rw [List.mem_singleton] at hy
    subst hy
    exact hn
  have kp : ∀ b o, s.heap.get? b = some o → h₁.get? b = some o := fun b o e => hsb.extBut b o (Nat.ne_of_lt (Heap.lt_size e)) (Heap.get?_push_of_some _ e)
  show codeAny _ _ (.expr _ (PySem.W.envX qual scope s.heap.objs.size f (.ref c') cl)) _ _
  refine PySem.W.kla_codeExpr ?_
  refine Subscript_ (wpAny_Name (wpAny_loadName_free (c := c) (v := .ref a) hkind hx hc (hv.keeps kp) ?_ hd2) hd1)
  refine wpAny_Name (wpAny_loadName_local (v := .int i t0) hkind hn hns ?_ ?_) hd3
  · show List.lookup n [(n, Value.int i t0)] = _
    rw [List.lookup_cons, beq_self_eq_true]
  · exact item_listR (let ⟨o, e, r⟩ := hl; ⟨o, kp _ _ e, r⟩) h0 hfit hi (h _ _ kp) rfl
end
/-! ### what a stable sort by keys leaves of the places -/
def gOf (p : Int × Value) : Nat := (numOf p.2).toNat
theorem ints_g : ∀ ps : List (Int × Value), (∀ p ∈ ps, ∃ t, p.2 = .int ((gOf p : Nat) : Int) t) → IntsAre (ps.map Prod.snd) ((ps.map gOf).map fun (n : Nat) => (n : Int))
  | [], _ => .nil
  | p :: ps, h => by
    obtain ⟨t, e⟩ := h p List.mem_cons_self
    have r := ints_g ps fun q hq => h q (List.mem_cons_of_mem _ hq)
    rw [List.map_cons, List.map_cons, List.map_cons, e]
    exact .cons _ t r
theorem stable_out {kz : List Int} {vs out : List Value} (h : KskOutSt false kz vs out) (hvs : ∀ (i : Nat) (v : Value), vs[i]? = some v → ∃ t, v = .int ((i : Nat) : Int) t) (hlen : kz.length = vs.length) :
    ∃ ns : List Nat, IntsAre out (ns.map fun (n : Nat) => (n : Int)) ∧ ns.Perm (List.range vs.length) ∧ ns.Pairwise fun i k => kz.getD i 0 < kz.getD k 0 ∨ (kz.getD i 0 = kz.getD k 0 ∧ i ≤ k) := by
  obtain ⟨ps, hp, rfl, hs, hst⟩ := h
  have at_ : ∀ p ∈ kz.zip vs, ∃ i : Nat, i < vs.length ∧ (∃ t, p.2 = .int ((i : Nat) : Int) t) ∧ p.1 = kz.getD i 0 := fun p hm => by
    obtain ⟨i, hi, e⟩ := List.getElem_of_mem hm
    rw [List.getElem_zip] at e
    rw [List.length_zip] at hi
    have h1 : i < vs.length := by omega
    have h2 : i < kz.length := by omega
    subst e
    refine ⟨i, h1, hvs i _ (List.getElem?_eq_getElem h1), ?_⟩
    rw [List.getD, List.getElem?_eq_getElem h2]
    rfl
  have g_at : ∀ p ∈ kz.zip vs, (∃ t, p.2 = .int ((gOf p : Nat) : Int) t) ∧ p.1 = kz.getD (gOf p) 0 := fun p hm => by
    obtain ⟨i, _, ⟨t, e⟩, e2⟩ := at_ p hm
    have : gOf p = i := by
      unfold gOf
      rw [e]
      exact Int.toNat_natCast i
    rw [this]
    exact ⟨⟨t, e⟩, e2⟩
  have zg : (kz.zip vs).map gOf = List.range vs.length := by
    apply List.ext_getElem
    · rw [List.length_map, List.length_zip, List.length_range]
      omega
    · intro i h1 h2
      rw [List.length_range] at h2
      rw [List.getElem_map, List.getElem_zip, List.getElem_range]
      obtain ⟨t, e⟩ := hvs i _ (List.getElem?_eq_getElem h2)
      unfold gOf
      rw [e]
      exact Int.toNat_natCast i
  refine ⟨ps.map gOf, ints_g ps fun p hm => (g_at p (hp.mem_iff.mp hm)).1, ?_, ?_⟩
  · rw [← zg]
    exact hp.map gOf
  · rw [List.pairwise_map, List.pairwise_iff_forall_sublist]
    intro p q hsub
    have hle := (List.pairwise_iff_forall_sublist.mp hs) hsub
    have hle : p.1 ≤ q.1 := hle
    have mp : p ∈ ps := hsub.subset List.mem_cons_self
    have mq : q ∈ ps := hsub.subset (List.mem_cons_of_mem _ List.mem_cons_self)
    rw [← (g_at p (hp.mem_iff.mp mp)).2, ← (g_at q (hp.mem_iff.mp mq)).2]
    by_cases c : p.1 = q.1
    · refine .inr ⟨c, ?_⟩
      have h1 := hsub.filter (fun r => r.1 == q.1)
      rw [hst q.1, List.filter_cons, if_pos (by rw [c]; exact beq_self_eq_true _), List.filter_cons, if_pos (beq_self_eq_true _)] at h1
      have h2 : [p, q].Sublist (kz.zip vs) := h1.trans List.filter_sublist
      have h3 := h2.map gOf
      rw [zg] at h3
      have h4 := (List.pairwise_iff_forall_sublist.mp (List.pairwise_lt_range (n := vs.length))) h3
      exact Nat.le_of_lt h4
    · exact .inl (by omega)
/-! ### sorted of a range by a def of one's own, at the library's level -/
section
variable {prog : Program} {w : World} {A : Around} {E : Value → Shared → Prop} {s : Shared}
theorem sorted_rng {h₀ : Heap} {L : Addr} {m : Str → Option Value} {news : List (Addr × Obj)} {kz : List Int} {q r : Addr} {n : Nat} {t u v : Tok} {Q : Value → Shared → Prop} (F : Fr h₀ L s.heap m) (N : News h₀ L s.heap news) (hh : A.handled = none)
    (hr : IsRange s.heap r 0 (n : Int) 1 t u v) (hlen : kz.length = n) (hn : n ≤ 1000)
    (turn : ∀ (i : Nat) (t : Tok) (k : Int), kz[i]? = some k → ∀ (h : Heap) (tk : Nat) (own : List (Addr × Obj)), Fr h₀ L h m → News h₀ L h (news ++ own) →
      wpAny (model prog w) A.in1.in1 (call (.ref q) [.int ((i : Nat) : Int) t]) (KskEnd h₀ L m (news ++ own) k { s with heap := h, toks := tk }) (fun _ _ => False) { s with heap := h, toks := tk })
    (done : ∀ D h' tk out c vs, Fr h₀ L h' m → News h₀ L h' ((D, seqObj "list" out c) :: news) → (∃ h1 : Heap, (∀ b o, s.heap.get? b = some o → h1.get? b = some o) ∧ D = h1.objs.size) → vs.length = n → (∀ (i : Nat) (v : Value), vs[i]? = some v → ∃ t, v = .int ((i : Nat) : Int) t) → KskOutSt false kz vs out.toList → Q (.ref D) { s with heap := h', toks := tk }) :
    wpAny (model prog w) A (call (.builtin "sorted") [.ref r] [(Str.ofString "key", .ref q)]) Q E s := by
  have line : 1000 ≤ sizeLine := by decide
  refine call_function_entry_kw kind_sorted plain_sorted entry_sorted (ksk_s1 _ _) ?_
  unfold Builtin.«sorted»
  refine wpAny_bind (m := checkCount "sorted" 1 1 _) (wpAny_pure ?_)
  have hsz : Builtin.Range.rangeSize 0 (n : Int) 1 = ((n : Nat) : Int) := by
    rw [rangeSize_one]
    split <;> omega
  refine wpAny_bind (collect_range (A := A.in1) hh hr (small_one (by decide) (by decide) (by omega) (by omega)) hsz (by omega) fun h1 tk1 acc k1 it => ?_)
  have l1 : acc.toList.length = n := by rw [Array.length_toList]; exact it.1
  have hvs : ∀ (i : Nat) (v : Value), acc.toList[i]? = some v → ∃ t, v = .int ((i : Nat) : Int) t := fun i v e => by
    rw [Array.getElem?_toList] at e
    obtain ⟨t, e2⟩ := it.2 i v e
    refine ⟨t, ?_⟩
    rw [e2]
    congr 1
    omega
  refine wpAny_bind (wpAny_newList ?_ (by rw [l1]; omega))
  have hD : (h1.push (seqObj "list" acc.toList.toArray 0)).get? h1.objs.size = some (seqObj "list" acc.toList.toArray 0) := Heap.get?_push_size _ rfl
  have k2 : ∀ b o, s.heap.get? b = some o → (h1.push (seqObj "list" acc.toList.toArray 0)).get? b = some o := fun b o e => Heap.get?_push_of_some _ (k1 b o e)
  have hL : L < h1.objs.size := (F.kept k1).ns.lt
  refine wpAny_bind (wpAny_holding (wpAny_call_entry_kw slot_list_sort ⟨_, hD, rfl⟩ entry_list_sort ?_ (ksk_l1 _ _)))
  show wpAny (model prog w) A.in1.in1 (Builtin.«list.sort» ⟨[.ref h1.objs.size], [(Str.ofString "key", .ref q)]⟩) _ _ _
  rw [ksk_t1]
  refine ksk_sortSt (s := { s with heap := h1.push (seqObj "list" acc.toList.toArray 0), toks := tk1 }) (F.kept k2) (N.grown k2) hD (Nat.ne_of_gt hL) (Heap.get?_none_of_le (Nat.le_trans F.above (Nat.le_of_lt hL)))
    (fun p hp => Nat.ne_of_lt (Heap.lt_size (k1 _ _ (N p hp).1))) (by rw [l1]; exact hlen) (by rw [l1]; omega) (fun i v k hv hk h tk own F' N' => ?_) fun h' tk out c F' N' ko => ⟨_, rfl, ?_⟩
  · obtain ⟨t, rfl⟩ := hvs i v hv
    exact turn i t k hk h tk own F' N'
  · exact wpAny_pure ⟨_, rfl, done _ h' tk out c acc.toList F' N' ⟨h1, k1, rfl⟩ l1 hvs ko⟩
end
end Gp
namespace Gp
open PySem PySem.Spec PyProof.Rows L2
open PySem.W (Codec)
/-! ### how the box lies in the heap -/
def nv (l : List Nat) : List V := l.map fun n => V.int ((n : Nat) : Int)
theorem nv_int (l : List Nat) : nv l = (l.map fun n => ((n : Nat) : Int)).map V.int := by
  unfold nv
  rw [List.map_map]
  rfl
theorem nv_len (l : List Nat) : (nv l).length = l.length := by
  unfold nv
  rw [List.length_map]
theorem nv_at {l : List Nat} {i : Nat} {k : Nat} (h : l[i]? = some k) : (nv l)[i]? = some (V.int (k : Int)) := by
  unfold nv
  rw [List.getElem?_map, h]
  rfl
theorem nv_snoc (l : List Nat) (k : Nat) : nv l ++ [V.int (k : Int)] = nv (l ++ [k]) := by
  unfold nv
  rw [List.map_append]
  rfl
def bF (la ra : Addr) (d : Nat) : List (Str × V) := [("lefts", .ref la), ("rights", .ref ra), ("differ", .int (d : Int))]
theorem lk_here {k : Str} {v : V} {r : List (Str × V)} : List.lookup k ((k, v) :: r) = some v := by
  have e : (k == k) = true := beq_self_eq_true k
  simp only [List.lookup, e]
theorem lk_past {k g : Str} {v : V} {r : List (Str × V)} (h : (k == g) = false) : List.lookup k ((g, v) :: r) = List.lookup k r := by
  simp only [List.lookup, h]
theorem put_here {f : Str} {v x : V} {r : List (Str × V)} : putF f v ((f, x) :: r) = (f, v) :: r := if_pos rfl
theorem put_past {f g : Str} {v x : V} {r : List (Str × V)} (h : ¬ g = f) : putF f v ((g, x) :: r) = (g, x) :: putF f v r := if_neg h
theorem bF_l (la ra : Addr) (d : Nat) : (bF la ra d).lookup ("lefts" : Str) = some (.ref la) := lk_here
theorem bF_r (la ra : Addr) (d : Nat) : (bF la ra d).lookup ("rights" : Str) = some (.ref ra) := (lk_past (by decide +kernel)).trans lk_here
theorem bF_d (la ra : Addr) (d : Nat) : (bF la ra d).lookup ("differ" : Str) = some (.int (d : Int)) := (lk_past (by decide +kernel)).trans ((lk_past (by decide +kernel)).trans lk_here)
theorem bF_no (la ra : Addr) (d : Nat) {m : Str} (h1 : (m == ("lefts" : Str)) = false) (h2 : (m == ("rights" : Str)) = false) (h3 : (m == ("differ" : Str)) = false) : (bF la ra d).lookup m = none := (lk_past h1).trans ((lk_past h2).trans ((lk_past h3).trans rfl))
theorem bF_pl (la ra la' : Addr) (d : Nat) : putF "lefts" (.ref la') (bF la ra d) = bF la' ra d := put_here
theorem bF_pr (la ra ra' : Addr) (d : Nat) : putF "rights" (.ref ra') (bF la ra d) = bF la ra' d := (put_past (by decide +kernel)).trans (congrArg _ put_here)
theorem bF_pd (la ra : Addr) (d d' : Nat) : putF "differ" (.int (d' : Int)) (bF la ra d) = bF la ra d' := (put_past (by decide +kernel)).trans (congrArg _ ((put_past (by decide +kernel)).trans (congrArg _ put_here)))
theorem if_yes {c : Bool} {A B : Prop} (hc : c = true) (h : A) : if c = true then A else B := by
  rw [if_pos hc]
  exact h
theorem if_no {c : Bool} {A B : Prop} (hc : c = false) (h : B) : if c = true then A else B := by
  rw [hc, if_neg Bool.false_ne_true]
  exact h
structure BoxAt (C : Addr) (H : Hp) (p la ra : Addr) (b : Si90.Box) : Prop where
  obj : ∃ dx, H p = some (.ins C dx (bF la ra b.limit))
  ls : H la = some (.lst (nv b.lefts))
  rs : H ra = some (.lst (nv b.rights))
  ne : la ≠ ra
theorem BoxAt.same {C : Addr} {H H' : Hp} {p la ra : Addr} {b : Si90.Box} (B : BoxAt C H p la ra b) (s : Same H H') : BoxAt C H' p la ra b := by
  obtain ⟨dx, h⟩ := B.obj
  exact ⟨⟨dx, s _ _ h⟩, s _ _ B.ls, s _ _ B.rs, B.ne⟩
theorem Same.new {H : Hp} {q : Addr} {o : HO} (h : H q = none) : Same H (upd H q o) := fun b u e => by
  rw [upd_ne (ne_of_none e h)]
  exact e
/-- what the top has written -/
structure Txt (K : PySem.W.Frag) (mg : Str → Option Value) (C : Addr) : Prop where
  cl : Cls K C
  nL : NoAttr K C "lefts"
  nR : NoAttr K C "rights"
  nD : NoAttr K C "differ"
  gC : mg "Box" = some (.ref C)
  gLarge : ∃ t, mg "LARGEST" = some (.int 1000 t)
  gMost : ∃ t, mg "MOST_ON_A_SIDE" = some (.int 5 t)
  len : mg "len" = none
  max : mg "max" = none
  sum : mg "sum" = none
  abs : mg "abs" = none
  enumerate : mg "enumerate" = none
  min : mg "min" = none
  sorted : mg "sorted" = none
  range : mg "range" = none
/-! ### the text by places -/
def top (i : Nat) : Stmt := PySem.Challenge.pw_glovepairs_s01_answers.main.body.getD i (.Pass ⟨0, 0, 0, 0⟩)
abbrev sInit : Stmt := inClass (top 3) 0
abbrev sBegins : Stmt := inClass (top 3) 1
abbrev sLeft : Stmt := inClass (top 3) 2
abbrev sRight : Stmt := inClass (top 3) 3
abbrev sCheck : Stmt := inClass (top 3) 4
abbrev sBest : Stmt := inClass (top 3) 5
abbrev sPlain : Stmt := inClass (top 3) 6
abbrev sNeeds : Stmt := inClass (top 3) 7
abbrev sIsPlan : Stmt := inClass (top 3) 8
abbrev sPaired : Stmt := inClass (top 3) 9
abbrev sGap : Stmt := inClass (top 3) 10
abbrev sGaps : Stmt := inClass (top 3) 11
abbrev sPairsOf : Stmt := inClass (top 3) 12
abbrev sOff : Stmt := inClass (top 3) 13
abbrev sWidest : Stmt := inClass (top 3) 14
abbrev sMeasured : Stmt := inClass (top 3) 15
abbrev sFar : Stmt := inClass (top 3) 16
abbrev sAgain : Stmt := inClass (top 3) 17
abbrev sPlans : Stmt := inClass (top 3) 18
abbrev sChoices : Stmt := inClass (top 3) 19
abbrev sSmallest : Stmt := inClass (top 3) 20
abbrev sPut : Stmt := top 4
abbrev sBySize : Stmt := top 5
abbrev sOne : Stmt := top 6
abbrev sAns : Stmt := top 7
/-! ### the promises -/
def spInit (C : Addr) : Sp := fun vs H Q _ => ∃ (p dx : Addr), vs = [.ref p] ∧ H p = some (.ins C dx []) ∧
  ∀ (H' : Hp) (la ra : Addr), BoxAt C H' p la ra ⟨0, [], []⟩ → H la = none → H ra = none → (∀ b o, H b = some o → b ≠ p → H' b = some o) → Q .non H'
def putV (l : List Nat) (n : Nat) : Int := if 1000 < n then -1 else if l.length = 5 then -5 else (l.length : Int)
def putL (l : List Nat) (n : Nat) : List Nat := if 1000 < n then l else if l.length = 5 then l else l ++ [n]
def spPut : Sp := fun vs H Q _ => ∃ (a : Addr) (l : List Nat) (n : Nat), vs = [.ref a, .int (n : Int)] ∧ H a = some (.lst (nv l)) ∧ l.length ≤ 5 ∧
  ∀ (H' : Hp) (r : Addr), H r = none → H' r = some (.lst [.int (putV l n)]) → H' a = some (.lst (nv (putL l n))) → (∀ b o, H b = some o → b ≠ a → H' b = some o) → Q (.ref r) H'
section
variable {P : Program} {w : World} {K : PySem.W.Frag} {mg : Str → Option Value} {base : Heap} {C : Addr}
theorem scI : FnScope ["self"] ["self"] (defScope sInit) := ⟨rfl, rfl, rfl, by decide +kernel, rfl, by decide +kernel, by decide +kernel⟩
theorem ok_init {f : Addr} {fd : FuncData} (F : Fun K "__init__" "Box.__init__" sInit f fd) (T : Txt K mg C) : FnOk P w K mg base CX0 1 f fd ["self"] (spInit C) := by
  refine F.ok scI (fun vs H Q E h => ?_) (fun cdv A outer s H vs Q E hr h => ?_)
  · obtain ⟨p, dx, rfl, _⟩ := h
    rfl
  · obtain ⟨p, dx, rfl, hp, k⟩ := h
    refine ⟨_, pss_cons (ps_fld (pv 0) (pe_lst pa_nil) rfl) (pss_cons (ps_fld (pv 0) (pe_lst pa_nil) rfl) (pss_one (ps_fld (pv 0) pe_int rfl))), ?_⟩
    refine ⟨Nat.zero_le _, fun la hla => ⟨_, rfl, p, C, dx, [], rfl, (by rw [upd_ne (ne_of_none hp hla)]; exact hp), T.cl, T.nL, (by show 0 < 1000; decide), ?_⟩⟩
    have nla : la ≠ p := fun e => by rw [e, hp] at hla; cases hla
    refine ⟨Nat.zero_le _, fun ra hra => ⟨_, rfl, p, C, dx, _, rfl, (by rw [upd_ne (fun e => by rw [← e, upd_same] at hra; cases hra)]; exact upd_same), T.cl, T.nR, (by show 1 < 1000; decide), ?_⟩⟩
    have nra : ra ≠ p := fun e => by rw [e, upd_same] at hra; cases hra
    have nrl : ra ≠ la := fun e => by rw [e, upd_ne nla, upd_same] at hra; cases hra
    refine ⟨_, rfl, p, C, dx, _, rfl, upd_same, T.cl, T.nD, (by show 2 < 1000; decide), ?_⟩
    refine k _ la ra ⟨⟨dx, Eq.trans upd_same ?_⟩, ?_, ?_, nrl.symm⟩ hla ?_ fun b o e hb => ?_
    · refine congrArg (fun q => some (HO.ins C dx q)) ?_
      exact (congrArg (putF "differ" (V.int 0)) (put_past (f := "rights") (g := "lefts") (v := .ref ra) (x := .ref la) (r := []) (by decide +kernel))).trans ((put_past (by decide +kernel)).trans (congrArg _ (put_past (by decide +kernel))))
    · rw [upd_ne nla, upd_ne nla, upd_ne nrl.symm, upd_ne nla, upd_same]
      rfl
    · rw [upd_ne nra, upd_ne nra, upd_same]
      rfl
    · rw [upd_ne nra, upd_ne nrl] at hra
      exact hra
    · rw [upd_ne hb, upd_ne hb, upd_ne, upd_ne hb, upd_ne (ne_of_none e hla)]
      · exact e
      · intro z
        rw [← z, upd_ne hb, upd_ne (ne_of_none e hla), e] at hra
        cases hra
theorem scP : FnScope ["side", "size"] ["side", "size"] (defScope sPut) := ⟨rfl, rfl, rfl, by decide +kernel, rfl, by decide +kernel, by decide +kernel⟩
theorem ok_put {f : Addr} {fd : FuncData} (F : Fun K "put_in" "put_in" sPut f fd) (T : Txt K mg C) : FnOk P w K mg base CX0 1 f fd ["side", "size"] spPut := by
  refine F.ok scP (fun vs H Q E h => ?_) (fun cdv A outer s H vs Q E hr h => ?_)
  · obtain ⟨a, l, n, rfl, _⟩ := h
    rfl
  · obtain ⟨a, l, n, rfl, hl, h5, k⟩ := h
    obtain ⟨t1, g1⟩ := T.gLarge
    obtain ⟨t2, g2⟩ := T.gMost
    refine ⟨_, pss_cons (ps_if (pt_cmpR op_gt (pv 1) (pe_glob (v := .int 1000) rfl g1 ⟨_, rfl⟩) (nomark _)) (pss_one (ps_ret (pe_lst (pa_cons (pe_un un_neg pe_int) pa_nil)))) pss_nil)
      (pss_cons (ps_if (pt_cmpR op_eq (pe_callB call_len_seq (by rfl) T.len PySem.boot_len (pa_cons (pv 0) pa_nil)) (pe_glob (v := .int 5) rfl g2 ⟨_, rfl⟩) (nomark _)) (pss_one (ps_ret (pe_lst (pa_cons (pe_un un_neg pe_int) pa_nil)))) pss_nil)
      (pss_cons (ps_expr (pe_bm PySem.F.plainAttrs_list PySem.F.slot_list_append PySem.F.type_list_append mt_append (pv 0) (pa_cons (pv 1) pa_nil)))
      (pss_one (ps_ret (pe_lst (pa_cons (pe_op op_sub (pe_callB call_len_seq (by rfl) T.len PySem.boot_len (pa_cons (pv 0) pa_nil)) pe_int) pa_nil)))))), ?_⟩
    refine ⟨_, rfl, _, _, rfl, rfl, _, rfl, ?_⟩
    by_cases c : 1000 < n
    · refine if_yes (decide_eq_true (show (1000 : Int) < (n : Int) by omega)) ?_
      refine ⟨_, rfl, by show 1 ≤ sizeLine; decide, fun r hr => ?_⟩
      refine k _ r hr ?_ ?_ fun b o e _ => by rw [upd_ne (ne_of_none e hr)]; exact e
      · rw [upd_same]
        unfold putV
        rw [if_pos c]
      · rw [upd_ne (ne_of_none hl hr)]
        unfold putL
        rw [if_pos c]
        exact hl
    · refine if_no (decide_eq_false (show ¬ (1000 : Int) < (n : Int) by omega)) ?_
      refine ⟨_, rfl, a, _, rfl, .inl (SqL.of hl), rfl, _, rfl, ?_⟩
      by_cases c5 : l.length = 5
      · refine if_yes (decide_eq_true (show (V.int ((nv l).length : Int)) = V.int 5 by rw [nv_len, c5]; rfl)) ?_
        refine ⟨_, rfl, by show 1 ≤ sizeLine; decide, fun r hr => ?_⟩
        refine k _ r hr ?_ ?_ fun b o e _ => by rw [upd_ne (ne_of_none e hr)]; exact e
        · rw [upd_same]
          unfold putV
          rw [if_neg c, if_pos c5]
        · rw [upd_ne (ne_of_none hl hr)]
          unfold putL
          rw [if_neg c, if_pos c5]
          exact hl
      · refine if_no (decide_eq_false (show ¬ (V.int ((nv l).length : Int)) = V.int 5 from fun e => by injection e with e; rw [nv_len] at e; omega)) ?_
        refine ⟨_, rfl, .inl ⟨rfl, _, SqL.of hl⟩, _, rfl, a, _, _, rfl, rfl, hl, (by rw [nv_len]; exact Nat.lt_of_le_of_lt h5 (by decide)), ?_⟩
        refine ⟨_, rfl, a, _, rfl, .inl (SqL.of upd_same), _, _, rfl, rfl, (by show 1 ≤ sizeLine; decide), fun r hr => ?_⟩
        have nr : r ≠ a := fun e => by rw [e, upd_same] at hr; cases hr
        have hr' : H r = none := by rw [upd_ne nr] at hr; exact hr
        refine k _ r hr' ?_ ?_ fun b o e hb => by rw [upd_ne (ne_of_none e hr'), upd_ne hb]; exact e
        · rw [upd_same]
          unfold putV
          rw [if_neg c, if_neg c5, List.length_append, nv_len]
          show some (HO.lst [V.int (((l.length + 1 : Nat) : Int) - 1)]) = _
          congr 4
          omega
        · rw [upd_ne nr.symm, upd_same]
          unfold putL
          rw [if_neg c, if_neg c5, nv_snoc]
end
end Gp
namespace Gp
open PySem PySem.Spec PyProof.Rows L2 LamX
section
variable {X : Cx} {pins : List (Addr × Obj)} {σ : L2.St} {H : Hp} {s : Shared}
theorem kept_off (I : Inv X pins σ H s) {h : Heap} {m : Str → Option Value} {own : List (Addr × Obj)} (F : Fr X.base X.env.locals h m) (N : News X.base X.env.locals h own) (sub : ∀ p ∈ allNews X.base s.heap X.env.locals, p ∈ own) (b : Addr) (o : Obj)
    (hb : b ≠ X.env.locals) (e : s.heap.get? b = some o) : h.get? b = some o := by
  cases q : X.base.get? b with
  | some u =>
    have z := (I.bs b u q).1
    rw [e] at z
    cases z
    exact F.keep b _ q
  | none => exact (N (b, o) (sub _ (mem_allNews hb q e))).1
/-- behind the sort: the new list is there, all else is as it was -/
theorem inv_sorted (I : Inv X pins σ H s) {m : Str → Option Value} (m0 : s.heap.Ns X.env.locals m) {D : Addr} {h' : Heap} {tk : Nat} {out : Array Value} {c : Nat} (F : Fr X.base X.env.locals h' m)
    (N : News X.base X.env.locals h' ((D, seqObj "list" out c) :: allNews X.base s.heap X.env.locals)) (hD : ∃ h1 : Heap, (∀ b o, s.heap.get? b = some o → h1.get? b = some o) ∧ D = h1.objs.size)
    {xs : List V} (hx : Vals xs out.toList) (hz : xs.length ≤ sizeLine) : H D = none ∧ Inv X pins σ (upd H D (.lst xs)) { s with heap := h', toks := tk } := by
  obtain ⟨h1, k1, rfl⟩ := hD
  have I1 : Inv X pins σ H { s with heap := h1 } := I.kept (t' := s.toks) k1
  have nD : H h1.objs.size = none := I1.hok.fresh (Nat.le_refl _)
  have neD : ∀ b o, s.heap.get? b = some o → b ≠ h1.objs.size := fun b o e => Nat.ne_of_lt (Heap.lt_size (k1 _ _ e))
  have kp := kept_off I F N fun p hp => List.mem_cons_of_mem _ hp
  have offL : ∀ b u, H b = some u → b ≠ X.env.locals := fun b u e => ne_of_none e I.free
  have stays : ∀ b u, H b = some u → upd H h1.objs.size (.lst xs) b = some u := fun b u e => by
    rw [upd_ne (ne_of_none e nD)]
    exact e
  refine ⟨nD, I.step (g' := s.gens) (d' := s.drawn) (ch := []) (fun b z => nomatch z) (fun b o hb _ _ e _ => kp b o hb e) (fun b o hb _ _ e _ => ⟨o.slots, kp b o hb e⟩)
    (fun b o _ e n => by rw [upd_ne (neD b o e)]; exact n) (fun b o _ e => ?_) (fun b u e => stays b _ e) (fun b o u e => stays b _ e) (fun b ps e => ⟨#[], by rw [stays b _ e]; simp⟩) (fun m' hm => ?_) (fun b u e => ?_) I.bare⟩
  · by_cases hb : b = X.env.locals
    · obtain ⟨oL, _, _, hL, _⟩ := F.ns
      rw [hb]
      exact ⟨oL, hL⟩
    · exact ⟨o, kp b o hb e⟩
  · rw [SlX.ns_only hm m0]
    exact F.ns
  · by_cases hb : b = h1.objs.size
    · rw [hb, upd_same] at e
      cases e
      rw [hb]
      refine ⟨hz, out.toList, c, hx, ?_⟩
      rw [Array.toArray_toList]
      exact (N _ List.mem_cons_self).1
    · rw [upd_ne hb] at e
      refine (I.hok b u e).stay (fun d v hd q => kp d v ?_ q) (fun d q => stays d _ q) fun d ys q => stays d _ q
      rcases hd with z | z
      · rw [z]
        exact offL b u e
      · exact offL d _ z
end
/-- all but what stands at P is as it was -/
def Off (P : Addr) (H H' : Hp) : Prop := ∀ b o, b ≠ P → H b = some o → H' b = some o
theorem Off.of {P : Addr} {H H' : Hp} (e : Same H H') : Off P H H' := fun b o _ h => e b o h
theorem Off.trans {P : Addr} {H H1 H2 : Hp} (a : Off P H H1) (b : Off P H1 H2) : Off P H H2 := fun c o n h => b c o n (a c o n h)
theorem Off.none {P : Addr} {q : Str} {H H' : Hp} (e : Off P H H') (t : TabS H' P q) {b : Addr} (h : H' b = none) : H b = none := by
  cases z : H b with
  | none => rfl
  | some o =>
    by_cases c : b = P
    · obtain ⟨ps, h1, _⟩ := t
      rw [c, h1] at h
      cases h
    · rw [e b o c z] at h
      cases h
theorem Off.seq {K : PySem.W.Frag} {P : Addr} {q : Str} {H H' : Hp} {a : Addr} {xs : List V} (e : Off P H H') (t : TabS H P q) (h : SqL K H a xs) : SqL K H' a xs := by
  obtain ⟨ps, hP, _⟩ := t
  rcases h with (h | ⟨o, h⟩) | h
  · exact .inl (.inl (e _ _ (ne_of h hP fun z => by cases z) h))
  · exact .inl (.inr ⟨o, e _ _ (ne_of h hP fun z => by cases z) h⟩)
  · exact .inr h
theorem TabS.part {H H' : Hp} {P : Addr} {q : Str} (t : TabS H P q) (e : ∀ b o, H b = some o → (∀ xs, o ≠ .lst xs) → (∀ C dx fs, o ≠ .ins C dx fs) → H' b = some o) : TabS H' P q := by
  obtain ⟨ps, h1, h2, h3⟩ := t
  refine ⟨ps, e _ _ h1 (fun xs z => by cases z) (fun C dx fs z => by cases z), h2, fun pos cv hc => ?_⟩
  obtain ⟨c, e1, e2⟩ := h3 pos cv hc
  exact ⟨c, e1, e _ _ e2 (fun xs z => by unfold CodeO at z; cases z) (fun C dx fs z => by unfold CodeO at z; cases z)⟩
/-- the making of a lambda: its code object is new, or the table has it -/
theorem lam_here {X : Cx} {pins : List (Addr × Obj)} {σ : L2.St} {H : Hp} {s : Shared} {c P : Addr} {q : Str} {params : Arguments} {body : Expr} {scope : Scope} {pos : Pos} {E : Value → Shared → Prop} {Q : Value → Shared → Prop}
    (I : Inv X pins σ H s) (TB : TabB X.base X.mg c P) (hcode : X.env.code = .ref c) (hT : TabS H P q) (hq : q = X.env.qual ++ "<lambda>") (hdef : defaultsOf params X.env = ([], [])) (hfree : ∀ y ∈ scope.names, y.2 = .free → ∃ c, X.env.cells.lookup y.1 = some c)
    (h : ∀ (f c' : Addr) (pm ctv : Value) (H1 : Hp) (s' : Shared), Inv X pins σ H1 s' → Off P H H1 → TabS H1 P q → s'.heap.get? f = some (PySem.W.kla_obj "<lambda>" q params body scope (cloFrom X.env.cells scope.names []) pm c' ctv) → H1 c' = some (CodeO c' q) → Q (.ref f) s') :
    wpAny (model X.prog X.w) X.A (eval (.Lambda params body scope pos) X.env) Q E s := by
  subst hq
  obtain ⟨ps, tab, tri, known⟩ := hT
  have here : s.heap.get? P = some { cls := .none, data := .fields ps } := I.hok P _ tab
  have bi := TB.bm.keeps I.bk
  have cd := TB.code.keeps I.bk
  have gl := I.mod.glob.keeps I.bk
  have clo := closure_ok hfree
  refine PySem.W.kla_eval hdef ?_
  cases seek : codeAmong pos ps.toList with
  | some cv =>
    obtain ⟨c', rfl, co⟩ := known pos cv seek
    refine PySem.W.kla_makeFunctionHit clo I.ok.glob gl hcode cd here tri seek bi fun ctv g tk old _ => ?_
    exact h _ c' _ ctv H _ (I.kept fun b o e => Heap.get?_push_of_some _ (old b o e)) (fun b o _ e => e) ⟨ps, tab, tri, known⟩ (Heap.get?_push_size _ rfl) co
  | none =>
    refine PySem.W.kla_makeFunction clo I.ok.glob gl hcode cd here tri seek TB.gP bi fun c' ctv g tk old ge lt cr grown => ?_
    obtain ⟨c2, oc, vs, t, e2, e3, e4, e5⟩ := cr
    cases e2
    have fresh : H c' = none := I.hok.fresh ge
    have nPc : P ≠ c' := ne_of_none tab fresh
    have J := inv_table (q := X.env.qual ++ "<lambda>") (more := #[rawInt pos.line, rawInt pos.col, .ref c']) (t' := tk) (h' := g.push (PySem.W.kla_obj "<lambda>" (X.env.qual ++ "<lambda>") params body scope (cloFrom X.env.cells scope.names []) ((X.mg "__name__").getD .none) c' ctv)) I tab
      (fun b o n e => Heap.get?_push_of_some _ (old b o n e)) (Heap.get?_push_of_some _ grown) ge ⟨oc, vs, t, Heap.get?_push_of_some _ e3, e4, e5⟩
    have off : Off P H (upd (upd H P (.tbl (ps ++ #[rawInt pos.line, rawInt pos.col, .ref c']))) c' (CodeO c' (X.env.qual ++ "<lambda>"))) := fun b o n e => by
      rw [upd_ne (ne_of_none e fresh), upd_ne n]
      exact e
    refine h _ c' _ ctv _ _ J off ⟨_, by rw [upd_ne nPc, upd_same], ?_, fun pos' cv hcv => ?_⟩ (Heap.get?_push_size _ rfl) upd_same
    · rw [Array.toList_append]
      exact PySem.TriplesOk_snoc _ _ _ _ tri
    · rw [Array.toList_append] at hcv
      rcases among_app _ tri hcv with z | z
      · obtain ⟨c0, y1, y2⟩ := known pos' cv z
        exact ⟨c0, y1, off c0 _ (ne_of y2 tab (codeO_ne _)) y2⟩
      · exact ⟨c', z, upd_same⟩
/-- the scope of a lambda that has its parameter n and reads x of the def around it -/
structure LamK (sc scope : Scope) (x n : Str) : Prop where
  kind : scope.kind = .function
  co : scope.isCoroutine = false
  gen : scope.isGenerator = false
  cell : ∀ y ∈ scope.names, y.2 ≠ .cell
  fx : scope.names.lookup x = some .free
  ln : scope.names.lookup n = some .local
  free : ∀ y ∈ scope.names, y.2 = .free → sc.names.lookup y.1 = some .cell ∨ sc.names.lookup y.1 = some .free
theorem nv_getInt (ns : List Nat) (i : Nat) : (ns.map fun (n : Nat) => (n : Int)).getD i 0 = ((ns.getD i 0 : Nat) : Int) := by
  rw [List.getD, List.getD, List.getElem?_map]
  cases ns[i]? <;> rfl
def byKey (ns : List Nat) (i k : Nat) : Prop := ns.getD i 0 < ns.getD k 0 ∨ (ns.getD i 0 = ns.getD k 0 ∧ i ≤ k)
def tSL (P : Addr) (q : Str) (K : PySem.W.Frag) (i : Nat) (tr : TA) : TE := fun σ H Q => tr σ H fun vs H1 => ∃ (r a : Addr) (ns : List Nat), vs = [.ref r] ∧ H1 r = some (.rng 0 ((ns.length : Nat) : Int)) ∧ σ[i]? = some (some (.ref a)) ∧ SqL K H1 a (nv ns) ∧ ns.length ≤ 1000 ∧ TabS H1 P q ∧
  ∀ (H2 : Hp) (D : Addr) (out : List Nat), Off P H1 H2 → TabS H2 P q → H2 D = none → out.Perm (List.range ns.length) → out.Pairwise (byKey ns) → Q (.ref D) (upd H2 D (.lst (nv out)))
section
variable {X : Cx}
/-- range(n) as a value -/
theorem cr_range1 : CallR X (.type "range") (fun vs H Q => ∃ i, vs = [V.int i] ∧ ∀ p, H p = none → Q (.ref p) (upd H p (.rng 0 i))) := by
  intro pins s σ H vs us Q I r h
  obtain ⟨i, rfl, q⟩ := h
  obtain ⟨u1, rfl, t, rfl⟩ := vals1 r
  refine call_range_1 ⟨.ref s.heap.objs.size, upd H s.heap.objs.size (.rng 0 i), I.laid (t' := s.toks + 1 + 1) (fun b o e => Heap.get?_push_of_some _ e) (Nat.le_refl _) ?_, rfl, q _ (I.hok.fresh (Nat.le_refl _))⟩
  exact ⟨_, t, _, Heap.get?_push_size _ rfl⟩
/-- sorted(range(..), key=lambda n: x[n]) -/
theorem pe_sortedLam {q : Str} {c P : Addr} {x n : Str} {p p1 p2 p3 lpos kp pos : Pos} {er : Expr} {tr : TA} {params : Arguments} {scope : Scope} {i : Nat}
    (hg : Gl X "sorted") (hm : X.mg "sorted" = none) (ha : PA X [er] tr) (hN : X.N[i]? = some x) (hvx : X.env.scope.names.lookup x = some .cell) (L : LamK X.env.scope scope x n)
    (TB : TabB X.base X.mg c P) (hcode : X.env.code = .ref c) (hq : q = X.env.qual ++ "<lambda>") (hr : Room 1 X.A) (hcalm : X.calm = true) (hdef : defaultsOf params X.env = ([], []))
    (hbind : ∀ (q : Str) (cl : List (Str × Addr)) (pm cv ctv : Value) (i : Int) (t : Tok), bindArgs (PySem.W.kla_fn "<lambda>" q params (.Subscript (.Name x p1) (.Name n p2) p3) scope cl pm cv ctv) ⟨[.int i t], []⟩ = pure [(n, .int i t)])
    (hd1 : (x == ("__debug__" : Str)) = false := by decide) (hd2 : (x == ("__classdict__" : Str)) = false := by decide) (hd3 : (n == ("__debug__" : Str)) = false := by decide)
    (he : backTo pos (starEach [er] X.env) = (false, eval er X.env) :: backTo pos (starEach [] X.env) := by rfl) (hpl : (backTo pos (starEach [er] X.env)).any (·.1) = false := by rfl) :
    PE X (.Call (.Name "sorted" p) [er] [⟨some "key", .Lambda params (.Subscript (.Name x p1) (.Name n p2) p3) scope lpos, kp⟩] pos) (tSL P q X.K i tr) := by
  refine ⟨fun pins s σ H Q I h => ?_⟩
  refine wpAny_Call_Name_kw (ld_blt I hg hm (u := .builtin "sorted") (by decide +kernel) ?_)
  refine PyProof.Rows.callWith_kw (thn (ha.run pos pins s σ H _ I h) fun us s1 ⟨vs, H1, I1, r1, q1⟩ => ?_) he hpl
  obtain ⟨r, a, ns, rfl, hrng, hσ, hs, hle, hT, fin⟩ := q1
  obtain rfl := Vals.ref1 r1
  have hfree : ∀ y ∈ scope.names, y.2 = .free → ∃ c, X.env.cells.lookup y.1 = some c := fun y hy e => I1.ok.has _ (L.free y hy e)
  refine wpAny_evalAll_cons (wpAny_bind (lam_here I1 TB hcode hT hq hdef hfree fun f c' pm ctv H2 s2 I2 eN T2 hf hco => wpAny_bind (wpAny_standAt (wpAny_pure (wpAny_evalAll_nil ?_)))))
  show wpAny (model X.prog X.w) X.A (call (.builtin "sorted") [.ref r] [(Str.ofString "key", .ref f)]) _ X.xe s2
  obtain ⟨m, F⟩ := I2.fr
  obtain ⟨t, u, v, hR⟩ := I2.hok r _ (eN r _ (by obtain ⟨ps, z, _⟩ := hT; exact ne_of hrng z fun z => by cases z) hrng)
  obtain ⟨its, rv, pl, hz⟩ := I2.list (eN.seq hT hs)
  obtain ⟨m', hn', hl⟩ := id I2.loc
  obtain ⟨uu, ru, lk⟩ := hl i x (.ref a) hN hσ (Or.inr (Or.inl hvx))
  obtain rfl : uu = Value.ref a := ru
  obtain ⟨cx, hcx, hcell⟩ : ∃ cx, X.env.cells.lookup x = some cx ∧ s2.heap.IsCell cx (some (.ref a)) := by
    rcases lk with ⟨k, _⟩ | ⟨_, cx, e, z⟩
    · have k' : X.env.scope.names.lookup x = some .local := k
      rw [hvx] at k'
      cases k'
    · exact ⟨cx, e, z⟩
  have hclo : (cloFrom X.env.cells scope.names []).lookup x = some cx := by
    have hy : (x, NameKind.free) ∈ scope.names := PySem.mem_of_lookup L.fx
    obtain ⟨c2, e2⟩ := mem_lookup (cloFrom_has (cells := X.env.cells) (acc := []) hy)
    rcases cloFrom_mem (PySem.mem_of_lookup e2) with z | ⟨_, z⟩
    · cases z
    · rw [e2, z, hcx]
      rfl
  obtain ⟨oL, esL, epL, hoL, hdL, _⟩ := id F.ns
  have offL : ∀ b o, s2.heap.get? b = some o → (∀ es ep, o.data ≠ .dict es ep) → b ≠ X.env.locals := fun b o e n z => by
    rw [z, hoL] at e
    cases e
    exact n _ _ hdL
  have hcode2 : s2.heap.CodeRec (.ref c') q := NdefX.codeO_at I2.hok hco
  refine sorted_rng (kz := ns.map fun (n : Nat) => (n : Int)) F news_all (I2.ok.hd hcalm) hR (List.length_map _) hle (fun j t0 k hk h tk own F' N' => ?_) (fun D h' tk out c2 ws F' N' hD hlw hws ko => ?_)
  · have kp := kept_off I2 F' N' fun p hp => List.mem_append_left _ hp
    obtain ⟨k0, ek, rfl⟩ : ∃ k0 : Nat, ns[j]? = some k0 ∧ k = (k0 : Int) := by
      rw [List.getElem?_map] at hk
      cases e : ns[j]? with
      | none =>
        rw [e] at hk
        cases hk
      | some k0 =>
        rw [e] at hk
        exact ⟨k0, rfl, (Option.some.inj hk).symm⟩
    obtain ⟨w1, ew, t1, rfl⟩ := rv.get (nv_at ek)
    have hj : j < ns.length := (List.getElem?_eq_some_iff.mp ek).1
    refine lam_call (s := { s2 with heap := h, toks := tk }) (i := ((j : Nat) : Int)) (a := a) (c := cx) (its := its.toArray) (t := t1) (Room.depth (A := X.A.in1.in1) (k := 0) ⟨hr.hd, ?_, ?_⟩) (I2.ok.mod.nolimit.keeps F'.keep) (kp f _ (offL f _ hf fun es ep z => by cases z) hf) ?_ L.kind L.co L.gen L.cell L.fx L.ln
      (hbind _ _ _ _ _ _ _) hclo ?_ ?_ (by omega) (by omega) ?_ hd1 hd2 hd3 fun h2 tk2 k2 => KskEnd.intro (F'.kept k2) (N'.grown k2) fun p hp => hp
    · have := hr.dp
      show X.A.depth + 3 * 0 + 5 < _
      omega
    · have := hr.un
      show X.A.units + 1 + 1 + 16 * 0 + 200 < _
      omega
    · obtain ⟨c3, oc, vs, t3, e1, e2, e3, e4⟩ := hcode2
      exact ⟨c3, oc, vs, t3, e1, kp c3 oc (offL c3 oc e2 fun es ep z => by rw [e3] at z; cases z) e2, e3, e4⟩
    · obtain ⟨oc, e1, e2⟩ := hcell
      exact ⟨oc, kp cx oc (I2.cne x cx hcx) e1, e2⟩
    · obtain ⟨ol, nl, e1, e2, _, e3⟩ := pl
      exact ⟨ol, kp a ol (offL a ol e1 fun es ep z => by rw [e3] at z; cases z) e1, e2, nl, e3⟩
    · rw [Int.toNat_natCast]
      simpa using ew
  · obtain ⟨on, hi, hp, hpw⟩ := stable_out ko hws (by rw [List.length_map, hlw])
    have hx := vals_ints hi
    rw [hlw] at hp
    obtain ⟨nD, I3⟩ := inv_sorted (tk := tk) I2 F.ns F' N' hD hx (by rw [List.length_map, List.length_map, hp.length_eq, List.length_range]; exact Nat.le_of_lt (small1000 hle))
    refine ⟨.ref D, _, I3, rfl, ?_⟩
    rw [← nv_int]
    refine fin H2 D on eN T2 nD hp (hpw.imp fun {i k} h => ?_)
    rw [nv_getInt, nv_getInt] at h
    unfold byKey
    omega
end
end Gp
namespace Gp
open PySem PySem.Spec PyProof.Rows L2
open PySem.W (Codec)
/-! ### begins, left, right -/
/-- a call that may change the box: the answer is a new list, the box is b' (its lists where they were, or new) -/
def Done (C : Addr) (H : Hp) (p la ra : Addr) (b' : Si90.Box) (ans : List Int) (Q : VK) : Prop :=
  ∀ (H' : Hp) (r la' ra' : Addr), H r = none → H' r = some (.lst (ans.map V.int)) → BoxAt C H' p la' ra' b' → (la' = la ∨ H la' = none) → (ra' = ra ∨ H ra' = none) →
    (∀ q o, H q = some o → q ≠ p → q ≠ la → q ≠ ra → H' q = some o) → Q (.ref r) H'
theorem Done.use {C : Addr} {H : Hp} {p la ra : Addr} {b' : Si90.Box} {ans : List Int} {Q : VK} (k : Done C H p la ra b' ans Q) {H' : Hp} {r la' ra' : Addr} (h1 : H r = none) (h2 : H' r = some (.lst (ans.map V.int))) (h3 : BoxAt C H' p la' ra' b') (h4 : la' = la ∨ H la' = none) (h5 : ra' = ra ∨ H ra' = none)
    (h6 : ∀ q o, H q = some o → q ≠ p → q ≠ la → q ≠ ra → H' q = some o) : Q (.ref r) H' := k H' r la' ra' h1 h2 h3 h4 h5 h6
/-- the answer as the specification tells it -/
def ansOf (a : Si90.Ans) : List Int := a.v :: a.l
def spBegins (C : Addr) : Sp := fun vs H Q _ => ∃ (p la ra : Addr) (b : Si90.Box) (d : Nat), vs = [.ref p, .int (d : Int)] ∧ BoxAt C H p la ra b ∧
  Done C H p la ra (Si90.step b (.begins d)).1 (ansOf (Si90.step b (.begins d)).2) Q
def spLeft (C : Addr) : Sp := fun vs H Q _ => ∃ (p la ra : Addr) (b : Si90.Box) (d : Nat), vs = [.ref p, .int (d : Int)] ∧ BoxAt C H p la ra b ∧ Ok b ∧
  Done C H p la ra (Si90.step b (.left d)).1 (ansOf (Si90.step b (.left d)).2) Q
def spRight (C : Addr) : Sp := fun vs H Q _ => ∃ (p la ra : Addr) (b : Si90.Box) (d : Nat), vs = [.ref p, .int (d : Int)] ∧ BoxAt C H p la ra b ∧ Ok b ∧
  Done C H p la ra (Si90.step b (.right d)).1 (ansOf (Si90.step b (.right d)).2) Q
theorem begins_no {b : Si90.Box} {d : Nat} (c : 1000 < d) : Si90.step b (.begins d) = (b, Si90.ok (-1)) := if_pos c
theorem begins_yes {b : Si90.Box} {d : Nat} (c : ¬ 1000 < d) : Si90.step b (.begins d) = (⟨d, [], []⟩, Si90.ok 0) := if_neg c
theorem left_is {b : Si90.Box} {d : Nat} (h : Ok b) : Si90.step b (.left d) = ({ b with lefts := putL b.lefts d }, Si90.ok (putV b.lefts d)) := by
  show (if 1000 < d then (b, Si90.ok (-1)) else if 5 ≤ b.lefts.length then (b, Si90.ok (-5)) else ({ b with lefts := b.lefts ++ [d] }, Si90.ok ((b.lefts.length : Nat) : Int))) = _
  unfold putL putV
  by_cases c : 1000 < d
  · rw [if_pos c, if_pos c, if_pos c]
  · rw [if_neg c, if_neg c, if_neg c]
    have := h.nl
    by_cases c5 : b.lefts.length = 5
    · rw [if_pos (by omega), if_pos c5, if_pos c5]
    · rw [if_neg (by omega), if_neg c5, if_neg c5]
theorem right_is {b : Si90.Box} {d : Nat} (h : Ok b) : Si90.step b (.right d) = ({ b with rights := putL b.rights d }, Si90.ok (putV b.rights d)) := by
  show (if 1000 < d then (b, Si90.ok (-1)) else if 5 ≤ b.rights.length then (b, Si90.ok (-5)) else ({ b with rights := b.rights ++ [d] }, Si90.ok ((b.rights.length : Nat) : Int))) = _
  unfold putL putV
  by_cases c : 1000 < d
  · rw [if_pos c, if_pos c, if_pos c]
  · rw [if_neg c, if_neg c, if_neg c]
    have := h.nr
    by_cases c5 : b.rights.length = 5
    · rw [if_pos (by omega), if_pos c5, if_pos c5]
    · rw [if_neg (by omega), if_neg c5, if_neg c5]
section
variable {P : Program} {w : World} {K : PySem.W.Frag} {mg : Str → Option Value} {base : Heap} {C : Addr}
theorem BoxAt.pl {H : Hp} {p la ra : Addr} {b : Si90.Box} (B : BoxAt C H p la ra b) : p ≠ la := by
  obtain ⟨dx, h⟩ := B.obj
  exact ne_of h B.ls (by intro z; cases z)
theorem BoxAt.pr {H : Hp} {p la ra : Addr} {b : Si90.Box} (B : BoxAt C H p la ra b) : p ≠ ra := by
  obtain ⟨dx, h⟩ := B.obj
  exact ne_of h B.rs (by intro z; cases z)
theorem scB : FnScope ["self", "differ"] ["self", "differ"] (defScope sBegins) := ⟨rfl, rfl, rfl, by decide +kernel, rfl, by decide +kernel, by decide +kernel⟩
theorem ok_begins {f : Addr} {fd : FuncData} (F : Fun K "begins" "Box.begins" sBegins f fd) (T : Txt K mg C) : FnOk P w K mg base CX0 1 f fd ["self", "differ"] (spBegins C) := by
  refine F.ok scB (fun vs H Q E h => ?_) (fun cdv A outer s H vs Q E hr h => ?_)
  · obtain ⟨p, la, ra, b, d, rfl, _⟩ := h
    rfl
  · obtain ⟨p, la, ra, b, d, rfl, B, k⟩ := h
    obtain ⟨t1, g1⟩ := T.gLarge
    refine ⟨_, pss_cons (ps_if (pt_cmpR op_gt (pv 1) (pe_glob (v := .int 1000) rfl g1 ⟨_, rfl⟩) (nomark _)) (pss_one (ps_ret (pe_lst (pa_cons (pe_un un_neg pe_int) pa_nil)))) pss_nil)
      (pss_cons (ps_fld (pv 0) (pe_lst pa_nil) rfl) (pss_cons (ps_fld (pv 0) (pe_lst pa_nil) rfl) (pss_cons (ps_fld (pv 0) (pv 1) rfl) (pss_one (ps_ret (pe_lst (pa_cons pe_int pa_nil))))))), ?_⟩
    refine ⟨_, rfl, _, _, rfl, rfl, _, rfl, ?_⟩
    by_cases c : 1000 < d
    · refine if_yes (decide_eq_true (show (1000 : Int) < (d : Int) by omega)) ?_
      refine ⟨_, rfl, by show 1 ≤ sizeLine; decide, fun r hr => ?_⟩
      rw [begins_no c] at k
      exact k.use hr upd_same (B.same (Same.new hr)) (.inl rfl) (.inl rfl) fun q o e _ _ _ => Same.new hr q o e
    · refine if_no (decide_eq_false (show ¬ (1000 : Int) < (d : Int) by omega)) ?_
      rw [begins_yes c] at k
      obtain ⟨dx, hp⟩ := B.obj
      refine ⟨Nat.zero_le _, fun l2 h2 => ⟨_, rfl, p, C, dx, _, rfl, Same.new h2 _ _ hp, T.cl, T.nL, (by show 3 < 1000; decide), ?_⟩⟩
      have n2 : l2 ≠ p := fun e => by rw [e, hp] at h2; cases h2
      refine ⟨Nat.zero_le _, fun r2 h3 => ⟨_, rfl, p, C, dx, _, rfl, (by rw [upd_ne (fun e => by rw [← e, upd_same] at h3; cases h3)]; exact upd_same), T.cl, T.nR, (by show 3 < 1000; decide), ?_⟩⟩
      have n3 : r2 ≠ p := fun e => by rw [e, upd_same] at h3; cases h3
      have n32 : r2 ≠ l2 := fun e => by rw [e, upd_ne n2, upd_same] at h3; cases h3
      have h3' : H r2 = none := by
        rw [upd_ne n3, upd_ne n32] at h3
        exact h3
      refine ⟨_, rfl, _, rfl, p, C, dx, _, rfl, upd_same, T.cl, T.nD, (by show 3 < 1000; decide), ?_⟩
      refine ⟨by show 1 ≤ sizeLine; decide, fun r hr => ?_⟩
      have nrp : r ≠ p := fun e => by rw [e, upd_same] at hr; cases hr
      have nr2 : r ≠ r2 := fun e => by rw [e, upd_ne n3, upd_ne n3, upd_same] at hr; cases hr
      have nrl : r ≠ l2 := fun e => by rw [e, upd_ne n2, upd_ne n2, upd_ne n32.symm, upd_ne n2, upd_same] at hr; cases hr
      have hr' : H r = none := by
        rw [upd_ne nrp, upd_ne nrp, upd_ne nr2, upd_ne nrp, upd_ne nrl] at hr
        exact hr
      refine k.use (la' := l2) (ra' := r2) hr' upd_same ⟨⟨dx, ?_⟩, ?_, ?_, n32.symm⟩ (.inr h2) (.inr h3') fun q o e h1 _ _ => ?_
      · rw [upd_ne nrp.symm, upd_same]
        refine congrArg (fun q => some (HO.ins C dx q)) ?_
        rw [bF_pl, bF_pr, bF_pd]
      · rw [upd_ne nrl.symm, upd_ne n2, upd_ne n2, upd_ne n32.symm, upd_ne n2, upd_same]
        rfl
      · rw [upd_ne nr2.symm, upd_ne n3, upd_ne n3, upd_same]
        rfl
      · rw [upd_ne (ne_of_none e hr'), upd_ne h1, upd_ne h1, upd_ne (ne_of_none e h3'), upd_ne h1, upd_ne (ne_of_none e h2)]
        exact e
theorem scL : FnScope ["self", "size"] ["self", "size"] (defScope sLeft) := ⟨rfl, rfl, rfl, by decide +kernel, rfl, by decide +kernel, by decide +kernel⟩
theorem ok_left {f fP : Addr} {fd fdP : FuncData} (F : Fun K "left" "Box.left" sLeft f fd) (T : Txt K mg C) (FP : Fun K "put_in" "put_in" sPut fP fdP) (bP : Binds K fdP ["side", "size"] []) (gP : mg "put_in" = some (.ref fP)) : FnOk P w K mg base CX0 2 f fd ["self", "size"] (spLeft C) := by
  have GP : FnOk P w K mg base CX0 1 fP fdP ["side", "size"] spPut := ok_put FP T
  refine F.ok scL (fun vs H Q E h => ?_) (fun cdv A outer s H vs Q E hr h => ?_)
  · obtain ⟨p, la, ra, b, d, rfl, _⟩ := h
    rfl
  · obtain ⟨p, la, ra, b, d, rfl, B, ob, k⟩ := h
    refine ⟨_, pss_one (ps_ret (pe_call GP hr rfl gP FP.kp bP .nil pass0 (pa_cons (pe_fld (pv 0) rfl) (pa_cons (pv 1) pa_nil)))), ?_⟩
    obtain ⟨dx, hp⟩ := B.obj
    rw [left_is ob] at k
    refine ⟨_, rfl, p, C, dx, _, _, rfl, hp, T.cl, T.nL, bF_l _ _ _, _, rfl, la, b.lefts, d, rfl, B.ls, ob.nl, fun H' r hr hR hL kp => ?_⟩
    exact k.use hr hR ⟨⟨dx, kp _ _ hp B.pl⟩, hL, kp _ _ B.rs B.ne.symm, B.ne⟩ (.inl rfl) (.inl rfl) fun q o e _ h2 _ => kp q o e h2
theorem scR : FnScope ["self", "size"] ["self", "size"] (defScope sRight) := ⟨rfl, rfl, rfl, by decide +kernel, rfl, by decide +kernel, by decide +kernel⟩
theorem ok_right {f fP : Addr} {fd fdP : FuncData} (F : Fun K "right" "Box.right" sRight f fd) (T : Txt K mg C) (FP : Fun K "put_in" "put_in" sPut fP fdP) (bP : Binds K fdP ["side", "size"] []) (gP : mg "put_in" = some (.ref fP)) : FnOk P w K mg base CX0 2 f fd ["self", "size"] (spRight C) := by
  have GP : FnOk P w K mg base CX0 1 fP fdP ["side", "size"] spPut := ok_put FP T
  refine F.ok scR (fun vs H Q E h => ?_) (fun cdv A outer s H vs Q E hr h => ?_)
  · obtain ⟨p, la, ra, b, d, rfl, _⟩ := h
    rfl
  · obtain ⟨p, la, ra, b, d, rfl, B, ob, k⟩ := h
    refine ⟨_, pss_one (ps_ret (pe_call GP hr rfl gP FP.kp bP .nil pass0 (pa_cons (pe_fld (pv 0) rfl) (pa_cons (pv 1) pa_nil)))), ?_⟩
    obtain ⟨dx, hp⟩ := B.obj
    rw [right_is ob] at k
    refine ⟨_, rfl, p, C, dx, _, _, rfl, hp, T.cl, T.nR, bF_r _ _ _, _, rfl, ra, b.rights, d, rfl, B.rs, ob.nr, fun H' r hr hR hL kp => ?_⟩
    exact k.use hr hR ⟨⟨dx, kp _ _ hp B.pr⟩, kp _ _ B.ls B.ne, hL, B.ne⟩ (.inl rfl) (.inl rfl) fun q o e _ _ h3 => kp q o e h3
end
end Gp
namespace Gp
open PySem PySem.Spec PyProof.Rows L2
open PySem.W (Codec)
/-! ### check -/
/-- a list of pairs of numbers at q -/
def TupsAt (H : Hp) (q : Addr) (ps : List (Nat × Nat)) : Prop := ∃ ts : List Addr, H q = some (.lst (ts.map V.ref)) ∧ ts.length = ps.length ∧
  ∀ (i : Nat) (t : Addr) (x : Nat × Nat), ts[i]? = some t → ps[i]? = some x → H t = some (.tup [.int (x.1 : Int), .int (x.2 : Int)])
theorem TupsAt.same {H H' : Hp} {q : Addr} {ps : List (Nat × Nat)} (h : TupsAt H q ps) (s : Same H H') : TupsAt H' q ps := by
  obtain ⟨ts, h1, h2, h3⟩ := h
  exact ⟨ts, s _ _ h1, h2, fun i t x a b => s _ _ (h3 i t x a b)⟩
theorem at_snoc {α : Type} {l : List α} {y x : α} {i : Nat} (h : (l ++ [y])[i]? = some x) : (i < l.length ∧ l[i]? = some x) ∨ (i = l.length ∧ y = x) := by
  by_cases c : i < l.length
  · rw [List.getElem?_append_left c] at h
    exact .inl ⟨c, h⟩
  · rw [List.getElem?_append_right (by omega)] at h
    have : i - l.length = 0 := by
      have := (List.getElem?_eq_some_iff.mp h).1
      simp at this
      omega
    rw [this] at h
    exact .inr ⟨by omega, Option.some.inj h⟩
theorem had_in (none : Nat) (l : List Nat) (i : Nat) (h : l.getD i 0 ≠ none) : had none l (List.range (i + 1)) = had none l (List.range i) ++ [(i, l.getD i 0)] := by
  rw [List.range_succ, had_append]
  unfold had
  rw [List.filter_cons, if_pos (bne_iff_ne.mpr h)]
  rfl
theorem had_out (none : Nat) (l : List Nat) (i : Nat) (h : l.getD i 0 = none) : had none l (List.range (i + 1)) = had none l (List.range i) := by
  rw [List.range_succ, had_append]
  unfold had
  rw [List.filter_cons, bne_eq_false_iff_eq.mpr h]
  exact List.append_nil _
theorem nv_get {l : List Nat} {i : Nat} {x : V} (h : (nv l)[i]? = some x) : i < l.length ∧ x = V.int ((l.getD i 0 : Nat) : Int) := by
  unfold nv at h
  rw [List.getElem?_map] at h
  cases e : l[i]? with
  | none =>
    rw [e] at h
    cases h
  | some k =>
    rw [e] at h
    refine ⟨(List.getElem?_eq_some_iff.mp e).1, ?_⟩
    rw [List.getD, e]
    exact (Option.some.inj h).symm
def optV : Option Nat → V
  | none => .non
  | some i => .int (i : Int)
def spIsPlan (K : PySem.W.Frag) (C : Addr) : Sp := fun vs H Q _ => ∃ (p la ra g : Addr) (b : Si90.Box) (l : List Nat), vs = [.ref p, .ref g] ∧ BoxAt C H p la ra b ∧ SqL K H g (nv l) ∧ Q (.bl (b.told l)) H
def spPaired (K : PySem.W.Frag) (C : Addr) : Sp := fun vs H Q _ => ∃ (p la ra g : Addr) (b : Si90.Box) (l : List Nat), vs = [.ref p, .ref g] ∧ BoxAt C H p la ra b ∧ SqL K H g (nv l) ∧ l.length ≤ 1000 ∧
  ∀ (H' : Hp) (q : Addr), Same H H' → H q = none → TupsAt H' q (paired b.none_ l) → Q (.ref q) H'
def spGap (C : Addr) : Sp := fun vs H Q _ => ∃ (p la ra : Addr) (b : Si90.Box) (i j : Nat), vs = [.ref p, .int (i : Int), .int (j : Int)] ∧ BoxAt C H p la ra b ∧ i < b.lefts.length ∧ j < b.rights.length ∧ Q (.int ((b.differ i j : Nat) : Int)) H
def spFar (K : PySem.W.Frag) (C : Addr) : Sp := fun vs H Q _ => ∃ (p la ra g : Addr) (b : Si90.Box) (l : List Nat), vs = [.ref p, .ref g] ∧ BoxAt C H p la ra b ∧ SqL K H g (nv l) ∧ l.length ≤ 1000 ∧ b.told l = true ∧
  ∀ (H' : Hp), Same H H' → Q (optV (b.bad l)) H'
def spAgain (K : PySem.W.Frag) (C : Addr) : Sp := fun vs H Q _ => ∃ (p la ra g : Addr) (b : Si90.Box) (l : List Nat), vs = [.ref p, .ref g] ∧ BoxAt C H p la ra b ∧ SqL K H g (nv l) ∧ l.length ≤ 1000 ∧
  ∀ (H' : Hp), Same H H' → Q (optV (b.twice l)) H'
def spCheck (K : PySem.W.Frag) (C : Addr) : Sp := fun vs H Q _ => ∃ (p la ra g : Addr) (b : Si90.Box) (l : List Nat), vs = [.ref p, .ref g] ∧ BoxAt C H p la ra b ∧ SqL K H g (nv l) ∧ l.length ≤ 1000 ∧
  ∀ (H' : Hp) (r : Addr), Same H H' → H r = none → H' r = some (.lst ((ansOf (Si90.step b (.check l)).2).map V.int)) → Q (.ref r) H'
section
variable {P : Program} {w : World} {K : PySem.W.Frag} {mg : Str → Option Value} {base : Heap} {C : Addr}
theorem scIs : FnScope ["self", "plan"] ["self", "plan"] (defScope sIsPlan) := ⟨rfl, rfl, rfl, by decide +kernel, rfl, by decide +kernel, by decide +kernel⟩
theorem ok_isPlan {f : Addr} {fd : FuncData} (F : Fun K "is_plan" "Box.is_plan" sIsPlan f fd) (T : Txt K mg C) : FnOk P w K mg base CX0 1 f fd ["self", "plan"] (spIsPlan K C) := by
  refine F.ok scIs (fun vs H Q E h => ?_) (fun cdv A outer s H vs Q E hr h => ?_)
  · obtain ⟨p, la, ra, g, b, l, rfl, _⟩ := h
    rfl
  · obtain ⟨p, la, ra, g, b, l, rfl, B, hg, k⟩ := h
    refine ⟨_, pss_cons (ps_if (pt_cmpR op_ne (pe_callB call_len_seq (by rfl) T.len PySem.boot_len (pa_cons (pv 1) pa_nil)) (pe_callB call_len_seq (by rfl) T.len PySem.boot_len (pa_cons (pe_fld (pv 0) rfl) pa_nil)) (nomark _)) (pss_one (ps_ret pe_bl)) pss_nil)
      (pss_one (ps_ret (pe_cmpR op_le (pe_callBK (ks := [Str.ofString "default"]) (cr_maxDef rfl) (by rfl) T.max (by decide +kernel) (pa_cons (pv 1) pa_nil) (pk_cons pe_int pk_nil)) (pe_callB call_len_seq (by rfl) T.len PySem.boot_len (pa_cons (pe_fld (pv 0) rfl) pa_nil)) (nomark _)))), ?_⟩
    obtain ⟨dx, hp⟩ := B.obj
    refine ⟨_, rfl, g, _, rfl, .inl hg, _, rfl, p, C, dx, _, _, rfl, hp, T.cl, T.nL, bF_l _ _ _, la, _, rfl, .inl (SqL.of B.ls), rfl, _, rfl, ?_⟩
    have ti := told_iff b l
    by_cases c : l.length = b.lefts.length
    · refine if_no (by rw [nv_len, nv_len, c, decide_eq_true rfl]; rfl) ?_
      have fin : ∀ m : Int, (m ≤ (b.rights.length : Int) ↔ ∀ k ∈ l, k ≤ b.rights.length) → Q (.bl (decide (m ≤ (((nv b.rights).length : Nat) : Int)))) H := fun m hm => by
        have e : decide (m ≤ (((nv b.rights).length : Nat) : Int)) = b.told l := by
          rw [nv_len, Bool.eq_iff_iff, decide_eq_true_eq, hm, ti]
          exact ⟨fun z => ⟨c, z⟩, fun z => z.2⟩
        rw [e]
        exact k
      refine ⟨_, rfl, g, _, 0, rfl, rfl, (by rw [nv_int] at hg; exact hg), fun z => ?_, fun z m hm hall => ?_⟩
      · refine ⟨_, rfl, p, C, dx, _, _, rfl, hp, T.cl, T.nR, bF_r _ _ _, ra, _, rfl, .inl (SqL.of B.rs), _, _, rfl, rfl, ?_⟩
        refine fin 0 ⟨fun _ k hk => ?_, fun _ => by omega⟩
        have : l = [] := List.map_eq_nil_iff.mp z
        rw [this] at hk
        cases hk
      · refine ⟨_, rfl, p, C, dx, _, _, rfl, hp, T.cl, T.nR, bF_r _ _ _, ra, _, rfl, .inl (SqL.of B.rs), _, _, rfl, rfl, ?_⟩
        refine fin m ⟨fun h k hk => ?_, fun h => ?_⟩
        · have := hall _ (List.mem_map.mpr ⟨k, hk, rfl⟩)
          omega
        · obtain ⟨k, hk, rfl⟩ := List.mem_map.mp hm
          have := h k hk
          omega
    · refine if_yes ?_ ?_
      · rw [decide_eq_false]
        · rfl
        · intro e
          injection e with e
          rw [nv_len, nv_len] at e
          omega
      · have e : b.told l = false := by
          cases q : b.told l with
          | false => rfl
          | true => exact absurd (ti.mp q).1 c
        rw [e] at k
        exact k
theorem scPd : FnScope ["self", "plan", "none", "left", "right"] ["self", "plan"] (defScope sPaired) := ⟨rfl, rfl, rfl, by decide +kernel, rfl, by decide +kernel, by decide +kernel⟩
theorem ok_paired {f : Addr} {fd : FuncData} (F : Fun K "paired" "Box.paired" sPaired f fd) (T : Txt K mg C) : FnOk P w K mg base CX0 1 f fd ["self", "plan"] (spPaired K C) := by
  refine F.ok scPd (fun vs H Q E h => ?_) (fun cdv A outer s H vs Q E hr h => ?_)
  · obtain ⟨p, la, ra, g, b, l, rfl, _⟩ := h
    rfl
  · obtain ⟨p, la, ra, g, b, l, rfl, B, hg, hl, k⟩ := h
    refine ⟨_, pss_cons (ps_set (i := 2) scPd.nd rfl (Or.inr rfl) (pe_callB call_len_seq (by rfl) T.len PySem.boot_len (pa_cons (pe_fld (pv 0) rfl) pa_nil)))
      (pss_one (ps_ret (pe_lc (own := [("left", 3), ("right", 4)]) (g := gTup K 2 (gCons (gName 3) (gCons (gName 4) gNil))) rfl scPd.nd (pi_enum (by rfl) T.enumerate (pa_cons (pv 1) pa_nil))
        (blkOk_by (own := [("left", 3), ("right", 4)]) (N := ["self", "plan", "none", "left", "right"]) (sc := defScope sPaired) (by decide +kernel))
        (fun _ _ _ _ _ => pg_tup rfl (pgs_cons (pg_name (i := 3) scPd.nd rfl (Or.inl rfl)) (pgs_cons (pg_name (i := 4) scPd.nd rfl (Or.inl rfl)) pgs_nil)))
        (fun _ _ _ _ _ => pts_one (pt_cmpR op_ne (pv 4) (pv 2) (nomark _)))
        (fun _ _ _ _ _ => pe_tup (pa_cons (pv 3) (pa_cons (pv 4) pa_nil)))))), ?_⟩
    obtain ⟨dx, hp⟩ := B.obj
    refine ⟨_, rfl, p, C, dx, _, _, rfl, hp, T.cl, T.nR, bF_r _ _ _, ra, _, rfl, .inl (SqL.of B.rs), ?_⟩
    refine ⟨_, rfl, g, _, rfl, hg, fun D hD => ?_⟩
    have hlen : (nv l).length = l.length := nv_len l
    refine lc_it (walk_enum (K := K) (a := g) (xs := nv l)) (fun i H2 => Same H H2 ∧ TupsAt H2 D (had b.none_ l (List.range i))) ⟨Same.new hD, [], upd_same, rfl, fun i t x h => by simp at h⟩ (fun i H2 _ h => h.1.seq hg) ?_ ?_
    · rintro i x H2 H3 hi ⟨s2, ts, hts, hlen2, htup⟩ ⟨t, x1, x2, rfl, ht, rfl, e1, e2⟩
      obtain ⟨hi2, rfl⟩ := nv_get e2
      have e1 := Option.some.inj e1
      subst e1
      refine ⟨t, _, rfl, SqT.of upd_same, rfl, _, _, rfl, _, _, rfl, rfl, rfl, ?_⟩
      refine ⟨_, rfl, _, rfl, rfl, _, rfl, ?_⟩
      have s3 : Same H2 (upd H2 t (.tup [.int ((i : Nat) : Int), .int ((l.getD i 0 : Nat) : Int)])) := Same.new ht
      by_cases c : l.getD i 0 = b.none_
      · refine if_no ?_ ?_
        · rw [decide_eq_true (by rw [c, nv_len]; rfl)]
          rfl
        · refine ⟨s2.trans s3, ?_⟩
          rw [had_out _ _ _ c]
          exact TupsAt.same ⟨ts, hts, hlen2, htup⟩ s3
      · refine if_yes ?_ ?_
        · rw [decide_eq_false]
          · rfl
          · intro e
            injection e with e
            rw [nv_len] at e
            exact c (by show l.getD i 0 = b.rights.length; omega)
        · refine ⟨_, rfl, _, rfl, (by show 2 ≤ sizeLine; decide), fun u hu => ⟨_, s3.trans (Same.new hu) _ _ hts, ?_, ?_⟩⟩
          · rw [List.length_map, hlen2]
            have h1 : (had b.none_ l (List.range i)).length ≤ i := by
              unfold had
              rw [List.length_map]
              exact Nat.le_trans (List.length_filter_le _ _) (by simp)
            have : 1000 < sizeLine := by decide
            omega
          · have nDu : D ≠ u := ne_of_none (s3 _ _ hts) hu
            have nut : u ≠ D := nDu.symm
            refine ⟨fun q o e => ?_, ts ++ [u], ?_, ?_, ?_⟩
            · have hqD : q ≠ D := ne_of_none e hD
              rw [upd_ne hqD]
              exact (s3.trans (Same.new hu)) _ _ (s2 _ _ e)
            · rw [upd_same, List.map_append]
              rfl
            · rw [had_in _ _ _ c, List.length_append, List.length_append, hlen2]
              rfl
            · rw [had_in _ _ _ c]
              intro j t' x' h1 h2
              rcases at_snoc h1 with ⟨c1, h1⟩ | ⟨c1, h1⟩
              · rcases at_snoc h2 with ⟨c2, h2⟩ | ⟨c2, h2⟩
                · have hh := htup j t' x' h1 h2
                  have : t' ≠ D := fun z => by rw [z, hts] at hh; cases hh
                  rw [upd_ne this]
                  exact (s3.trans (Same.new hu)) _ _ hh
                · omega
              · rcases at_snoc h2 with ⟨c2, h2⟩ | ⟨c2, h2⟩
                · omega
                · subst h1 h2
                  rw [upd_ne nut, upd_same]
    · rintro H2 ⟨s2, h2⟩
      rw [hlen] at h2
      exact k H2 D s2 hD h2
theorem scG : FnScope ["self", "left", "right"] ["self", "left", "right"] (defScope sGap) := ⟨rfl, rfl, rfl, by decide +kernel, rfl, by decide +kernel, by decide +kernel⟩
theorem gap_is (x y : Nat) : (if ((x : Int) - (y : Int)) < 0 then -((x : Int) - (y : Int)) else ((x : Int) - (y : Int))) = ((Si90.apart x y : Nat) : Int) := by
  unfold Si90.apart
  split <;> omega
theorem nv_getD {l : List Nat} {i : Nat} (h : i < l.length) : (nv l)[i]? = some (V.int ((l.getD i 0 : Nat) : Int)) := by
  refine nv_at ?_
  rw [List.getElem?_eq_getElem h, List.getD, List.getElem?_eq_getElem h]
  rfl
theorem ok_gap {f : Addr} {fd : FuncData} (F : Fun K "gap" "Box.gap" sGap f fd) (T : Txt K mg C) : FnOk P w K mg base CX0 1 f fd ["self", "left", "right"] (spGap C) := by
  refine F.ok scG (fun vs H Q E h => ?_) (fun cdv A outer s H vs Q E hr h => ?_)
  · obtain ⟨p, la, ra, b, i, j, rfl, _⟩ := h
    rfl
  · obtain ⟨p, la, ra, b, i, j, rfl, B, hi, hj, k⟩ := h
    refine ⟨_, pss_one (ps_ret (pe_callB call_abs (by rfl) T.abs (by decide +kernel) (pa_cons (pe_op op_sub (pe_ix ix_list (pe_fld (pv 0) rfl) (pv 1) (fun _ _ => rfl)) (pe_ix ix_list (pe_fld (pv 0) rfl) (pv 2) (fun _ _ => rfl))) pa_nil))), ?_⟩
    obtain ⟨dx, hp⟩ := B.obj
    refine ⟨_, rfl, p, C, dx, _, _, rfl, hp, T.cl, T.nL, bF_l _ _ _, _, rfl, la, _, _, _, rfl, rfl, SqL.of B.ls, atI_nat (nv_getD hi), ?_⟩
    refine ⟨_, rfl, p, C, dx, _, _, rfl, hp, T.cl, T.nR, bF_r _ _ _, _, rfl, ra, _, _, _, rfl, rfl, SqL.of B.rs, atI_nat (nv_getD hj), ?_⟩
    refine ⟨_, _, rfl, rfl, _, rfl, ?_⟩
    rw [gap_is]
    exact k
end
end Gp
namespace Gp
open PySem PySem.Spec PyProof.Rows L2
open PySem.W (Codec)
theorem none_isnt (i : Nat) : decide (optV (some i) = .non) = false := decide_eq_false (fun e => by cases e)
theorem inV_nv (k : Nat) (l : List Nat) : inV (V.int (k : Int)) (nv l) = decide (k ∈ l) := by
  unfold inV nv
  rw [Bool.eq_iff_iff, List.any_eq_true, decide_eq_true_eq]
  constructor
  · rintro ⟨y, hy, e⟩
    obtain ⟨m, hm, rfl⟩ := List.mem_map.mp hy
    have : ((m : Nat) : Int) = ((k : Nat) : Int) := eq_of_beq (show (((m : Nat) : Int) == ((k : Nat) : Int)) = true from e)
    have : m = k := by omega
    exact this ▸ hm
  · intro hm
    exact ⟨V.int (k : Int), List.mem_map.mpr ⟨k, hm, rfl⟩, beq_self_eq_true (k : Int)⟩
theorem flat_nv (l : List Nat) : (nv l).all flatV = true := by
  rw [List.all_eq_true]
  intro x hx
  obtain ⟨m, _, rfl⟩ := List.mem_map.mp hx
  rfl
theorem drop_at {α : Type} {l : List α} {i : Nat} {x : α} (h : l[i]? = some x) : l.drop i = x :: l.drop (i + 1) := by
  obtain ⟨h1, h2⟩ := List.getElem?_eq_some_iff.mp h
  rw [← h2]
  exact List.drop_eq_getElem_cons h1
theorem far_ok {b : Si90.Box} {l : List Nat} (h : b.told l = true) {x : Nat × Nat} (hx : x ∈ paired b.none_ l) : x.1 < b.lefts.length ∧ x.2 < b.rights.length := by
  have ti := (told_iff b l).mp h
  obtain ⟨h1, h2, h3⟩ := paired_mem hx
  have h4 := ti.2 _ (List.mem_of_getElem? h2)
  refine ⟨by omega, ?_⟩
  unfold Si90.Box.none_ at h3
  omega
section
variable {P : Program} {w : World} {K : PySem.W.Frag} {mg : Str → Option Value} {base : Heap} {C : Addr}
theorem scF : FnScope ["self", "plan", "left", "right"] ["self", "plan"] (defScope sFar) := ⟨rfl, rfl, rfl, by decide +kernel, rfl, by decide +kernel, by decide +kernel⟩
theorem ok_far {f fP fG : Addr} {fd fdP fdG : FuncData} (F : Fun K "first_too_far" "Box.first_too_far" sFar f fd) (T : Txt K mg C)
    (FP : Fun K "paired" "Box.paired" sPaired fP fdP) (bP : Binds K fdP ["self", "plan"] []) (mP : Meth K C "paired" fP)
    (FG : Fun K "gap" "Box.gap" sGap fG fdG) (bG : Binds K fdG ["self", "left", "right"] []) (mG : Meth K C "gap" fG) : FnOk P w K mg base CX0 2 f fd ["self", "plan"] (spFar K C) := by
  have GP : FnOk P w K mg base CX0 1 fP fdP ["self", "plan"] (spPaired K C) := ok_paired FP T
  have GG : FnOk P w K mg base CX0 1 fG fdG ["self", "left", "right"] (spGap C) := ok_gap FG T
  refine F.ok scF (fun vs H Q E h => ?_) (fun cdv A outer s H vs Q E hr h => ?_)
  · obtain ⟨p, la, ra, g, b, l, rfl, _⟩ := h
    rfl
  · obtain ⟨p, la, ra, g, b, l, rfl, B, hg, hl, ht, k⟩ := h
    refine ⟨_, pss_cons (ps_for PassesOwn.never rfl (pi_list (pe_meth (pv 0) T.cl mP GP hr bP .nil pass0 (pa_cons (pv 1) pa_nil)))
        (pg_tup rfl (pgs_cons (pg_name (i := 2) scF.nd rfl (Or.inl rfl)) (pgs_cons (pg_name (i := 3) scF.nd rfl (Or.inl rfl)) pgs_nil)))
        (pss_one (ps_if (pt_cmpR op_gt (pe_meth (pv 0) T.cl mG GG hr bG .nil pass0 (pa_cons (pv 2) (pa_cons (pv 3) pa_nil))) (pe_fld (pv 0) rfl) (nomark _)) (pss_one (ps_ret (pv 2))) pss_nil)))
      (pss_one (ps_ret pe_non)), ?_⟩
    obtain ⟨dx, hp⟩ := B.obj
    refine ⟨_, rfl, p, dx, _, rfl, hp, bF_no _ _ _ (by decide +kernel) (by decide +kernel) (by decide +kernel), _, rfl, p, la, ra, g, b, l, rfl, B, hg, hl, fun H1 q s1 nq tq => ?_⟩
    obtain ⟨ts, hq, hlen, htup⟩ := tq
    have B1 := B.same s1
    have hp1 := s1 _ _ hp
    have bi := bad_is b l
    refine ⟨q, rfl, ⟨_, SqL.of hq⟩, for_list (K := K) (a := q) (xs := ts.map V.ref) (fun i σ H2 => H2 = H1 ∧ (∃ v3 v4, σ = [some (.ref p), some (.ref g), v3, v4]) ∧
        ((paired b.none_ l).drop i).find? (fun x => decide (b.limit < b.differ x.1 x.2)) = (paired b.none_ l).find? (fun x => decide (b.limit < b.differ x.1 x.2)))
      ⟨rfl, ⟨none, none, rfl⟩, rfl⟩ (fun i σ H2 _ h => by rw [h.1]; exact SqL.of hq) ?_ ?_⟩
    · rintro i y σ H2 hi ⟨rfl, ⟨v3, v4, rfl⟩, hf⟩
      obtain ⟨t, e1, rfl⟩ : ∃ t, ts[i]? = some t ∧ y = V.ref t := by
        rw [List.getElem?_map] at hi
        cases e : ts[i]? with
        | none =>
          rw [e] at hi
          cases hi
        | some t =>
          rw [e] at hi
          exact ⟨t, rfl, (Option.some.inj hi).symm⟩
      obtain ⟨x, e2⟩ : ∃ x, (paired b.none_ l)[i]? = some x := ⟨_, List.getElem?_eq_getElem (by have := (List.getElem?_eq_some_iff.mp e1).1; omega)⟩
      obtain ⟨x1, x2⟩ := far_ok ht (List.mem_of_getElem? e2)
      rw [drop_at e2, List.find?_cons] at hf
      refine ⟨t, _, rfl, SqT.of (htup i t x e1 e2), rfl, _, _, rfl, _, _, rfl, rfl, ?_⟩
      refine ⟨_, rfl, p, dx, _, rfl, hp1, bF_no _ _ _ (by decide +kernel) (by decide +kernel) (by decide +kernel), _, rfl, _, rfl, p, la, ra, b, x.1, x.2, rfl, B1, x1, x2, ?_⟩
      refine ⟨_, rfl, p, C, dx, _, _, rfl, hp1, T.cl, T.nD, bF_d _ _ _, _, _, rfl, rfl, _, rfl, ?_⟩
      by_cases c : b.limit < b.differ x.1 x.2
      · refine if_yes (decide_eq_true (by omega)) ?_
        rw [decide_eq_true c] at hf
        refine ⟨_, rfl, ?_⟩
        have h := k H2 s1
        rw [bi, ← hf] at h
        exact h
      · refine if_no (decide_eq_false (by omega)) ?_
        rw [decide_eq_false c] at hf
        exact ⟨rfl, ⟨_, _, rfl⟩, hf⟩
    · rintro σ H2 ⟨rfl, ⟨v3, v4, rfl⟩, hf⟩
      rw [List.length_map, hlen, List.drop_length] at hf
      have h := k H2 s1
      rw [bi, ← hf] at h
      exact h
theorem scA : FnScope ["self", "plan", "told", "left", "right"] ["self", "plan"] (defScope sAgain) := ⟨rfl, rfl, rfl, by decide +kernel, rfl, by decide +kernel, by decide +kernel⟩
theorem ok_again {f fP : Addr} {fd fdP : FuncData} (F : Fun K "first_told_again" "Box.first_told_again" sAgain f fd) (T : Txt K mg C)
    (FP : Fun K "paired" "Box.paired" sPaired fP fdP) (bP : Binds K fdP ["self", "plan"] []) (mP : Meth K C "paired" fP) : FnOk P w K mg base CX0 2 f fd ["self", "plan"] (spAgain K C) := by
  have GP : FnOk P w K mg base CX0 1 fP fdP ["self", "plan"] (spPaired K C) := ok_paired FP T
  refine F.ok scA (fun vs H Q E h => ?_) (fun cdv A outer s H vs Q E hr h => ?_)
  · obtain ⟨p, la, ra, g, b, l, rfl, _⟩ := h
    rfl
  · obtain ⟨p, la, ra, g, b, l, rfl, B, hg, hl, k⟩ := h
    refine ⟨_, pss_cons (ps_set (i := 2) scA.nd rfl (Or.inl rfl) (pe_lst pa_nil)) (pss_cons (ps_for PassesOwn.never rfl (pi_list (pe_meth (pv 0) T.cl mP GP hr bP .nil pass0 (pa_cons (pv 1) pa_nil)))
        (pg_tup rfl (pgs_cons (pg_name (i := 3) scA.nd rfl (Or.inl rfl)) (pgs_cons (pg_name (i := 4) scA.nd rfl (Or.inl rfl)) pgs_nil)))
        (pss_cons (ps_if (pt_cmpR op_in_seq (pv 4) (pv 2) (by rfl)) (pss_one (ps_ret (pv 3))) pss_nil)
          (pss_one (ps_expr (pe_bm PySem.F.plainAttrs_list PySem.F.slot_list_append PySem.F.type_list_append mt_append (pv 2) (pa_cons (pv 4) pa_nil))))))
      (pss_one (ps_ret pe_non))), ?_⟩
    obtain ⟨dx, hp⟩ := B.obj
    refine ⟨Nat.zero_le _, fun tl htl => ?_⟩
    have s0 : Same H (upd H tl (.lst [])) := Same.new htl
    refine ⟨_, rfl, p, dx, _, rfl, s0 _ _ hp, bF_no _ _ _ (by decide +kernel) (by decide +kernel) (by decide +kernel), _, rfl, p, la, ra, g, b, l, rfl, B.same s0, s0.seq hg, hl, fun H1 q s1 nq tq => ?_⟩
    obtain ⟨ts, hq, hlen, htup⟩ := tq
    have tw := twice_is b l
    have htl1 := s1 tl _ upd_same
    have ntq : q ≠ tl := fun e => by rw [e, upd_same] at nq; cases nq
    refine ⟨q, rfl, ⟨_, SqL.of hq⟩, for_list (K := K) (a := q) (xs := ts.map V.ref) (fun i σ H2 => ∃ td : List Nat, H2 tl = some (.lst (nv td)) ∧ td.length ≤ i ∧ (∀ b o, H1 b = some o → b ≠ tl → H2 b = some o) ∧ (∃ v3 v4, σ = [some (.ref p), some (.ref g), some (.ref tl), v3, v4]) ∧
        again td ((paired b.none_ l).drop i) = again [] (paired b.none_ l))
      ⟨[], htl1, Nat.le_refl _, fun _ _ e _ => e, ⟨none, none, rfl⟩, rfl⟩ (fun i σ H2 _ ⟨_, _, _, kp, _⟩ => SqL.of (kp _ _ hq ntq)) ?_ ?_⟩
    · rintro i y σ H2 hi ⟨td, htd, hle, kp, ⟨v3, v4, rfl⟩, hf⟩
      obtain ⟨t, e1, rfl⟩ : ∃ t, ts[i]? = some t ∧ y = V.ref t := by
        rw [List.getElem?_map] at hi
        cases e : ts[i]? with
        | none =>
          rw [e] at hi
          cases hi
        | some t =>
          rw [e] at hi
          exact ⟨t, rfl, (Option.some.inj hi).symm⟩
      have hi' := (List.getElem?_eq_some_iff.mp e1).1
      obtain ⟨x, e2⟩ : ∃ x, (paired b.none_ l)[i]? = some x := ⟨_, List.getElem?_eq_getElem (by omega)⟩
      have htt := htup i t x e1 e2
      have ntt : t ≠ tl := ne_of htt htl1 (by intro z; cases z)
      rw [drop_at e2] at hf
      refine ⟨t, _, rfl, SqT.of (kp _ _ htt ntt), rfl, _, _, rfl, _, _, rfl, rfl, ?_⟩
      refine ⟨_, rfl, _, rfl, tl, _, rfl, .inl (SqL.of htd), rfl, flat_nv td, _, rfl, ?_⟩
      have sAll : Same H H2 := fun a o e => kp a o (s1 a o (s0 a o e)) (ne_of_none e htl)
      by_cases c : x.2 ∈ td
      · refine if_yes ?_ ?_
        · rw [if_neg Bool.false_ne_true, inV_nv, decide_eq_true c]
        · refine ⟨_, rfl, ?_⟩
          have h := k H2 sAll
          rw [tw, ← hf] at h
          rw [again, if_pos c] at h
          exact h
      · refine if_no ?_ ?_
        · rw [if_neg Bool.false_ne_true, inV_nv, decide_eq_false c]
        · refine ⟨_, rfl, .inl ⟨rfl, _, SqL.of htd⟩, _, rfl, tl, _, _, rfl, rfl, htd, ?_, ?_⟩
          · rw [nv_len]
            have h1 := paired_le b.none_ l
            have : 1000 < sizeLine := by decide
            omega
          · refine ⟨td ++ [x.2], ?_, by rw [List.length_append]; exact Nat.succ_le_succ hle, fun a o e n => by rw [upd_ne n]; exact kp a o e n, ⟨_, _, rfl⟩, ?_⟩
            · rw [upd_same, nv_snoc]
            · rw [← hf, again, if_neg c]
    · rintro σ H2 ⟨td, htd, hle, kp, ⟨v3, v4, rfl⟩, hf⟩
      rw [List.length_map, hlen, List.drop_length] at hf
      have sAll : Same H H2 := fun a o e => kp a o (s1 a o (s0 a o e)) (ne_of_none e htl)
      have h := k H2 sAll
      rw [tw, ← hf] at h
      exact h
end
end Gp
namespace Gp
open PySem PySem.Spec PyProof.Rows L2
open PySem.W (Codec)
/-! ### gaps, pairs_of, off, widest, measured -/
/-- a method of the box: the def, how its arguments bind, where the class has it -/
structure M1 (K : PySem.W.Frag) (C : Addr) (x qual : Str) (st : Stmt) (ps : List Str) (f : Addr) (fd : FuncData) : Prop where
  F : Fun K x qual st f fd
  y : Binds K fd ps []
  m : Meth K C x f
def gapsOf (b : Si90.Box) (l : List Nat) : List Nat := (paired b.none_ l).map fun x => b.differ x.1 x.2
theorem nat_sum : ∀ ns : List Nat, (ns.map fun (n : Nat) => (n : Int)).sum = ((ns.sum : Nat) : Int)
  | [] => rfl
  | n :: ns => by
    rw [List.map_cons, List.sum_cons, List.sum_cons, nat_sum ns]
    omega
theorem SqL.nat {K : PySem.W.Frag} {H : Hp} {a : Addr} {l : List Nat} (h : H a = some (.lst (nv l))) : SqL K H a ((l.map fun (n : Nat) => (n : Int)).map V.int) := by
  rw [nv_int] at h
  exact SqL.of h
def spGaps (K : PySem.W.Frag) (C : Addr) : Sp := fun vs H Q _ => ∃ (p la ra g : Addr) (b : Si90.Box) (l : List Nat), vs = [.ref p, .ref g] ∧ BoxAt C H p la ra b ∧ SqL K H g (nv l) ∧ l.length ≤ 1000 ∧ b.told l = true ∧
  ∀ (H' : Hp) (q : Addr), Same H H' → H q = none → H' q = some (.lst (nv (gapsOf b l))) → Q (.ref q) H'
def spPairsOf (K : PySem.W.Frag) (C : Addr) : Sp := fun vs H Q _ => ∃ (p la ra g : Addr) (b : Si90.Box) (l : List Nat), vs = [.ref p, .ref g] ∧ BoxAt C H p la ra b ∧ SqL K H g (nv l) ∧ l.length ≤ 1000 ∧
  ∀ (H' : Hp), Same H H' → Q (.int ((b.pairs l : Nat) : Int)) H'
def spOff (K : PySem.W.Frag) (C : Addr) : Sp := fun vs H Q _ => ∃ (p la ra g : Addr) (b : Si90.Box) (l : List Nat), vs = [.ref p, .ref g] ∧ BoxAt C H p la ra b ∧ SqL K H g (nv l) ∧ l.length ≤ 1000 ∧ b.told l = true ∧
  ∀ (H' : Hp), Same H H' → Q (.int ((b.off l : Nat) : Int)) H'
def spWidest (K : PySem.W.Frag) (C : Addr) : Sp := fun vs H Q _ => ∃ (p la ra g : Addr) (b : Si90.Box) (l : List Nat), vs = [.ref p, .ref g] ∧ BoxAt C H p la ra b ∧ SqL K H g (nv l) ∧ l.length ≤ 1000 ∧ b.told l = true ∧
  ∀ (H' : Hp), Same H H' → Q (.int ((b.worst l : Nat) : Int)) H'
def spMeasured (K : PySem.W.Frag) (C : Addr) : Sp := fun vs H Q _ => ∃ (p la ra g : Addr) (b : Si90.Box) (l : List Nat), vs = [.ref p, .ref g] ∧ BoxAt C H p la ra b ∧ SqL K H g (nv l) ∧ l.length ≤ 1000 ∧ b.told l = true ∧
  ∀ (H' : Hp) (r : Addr), Same H H' → H r = none → H' r = some (.lst (nv [b.pairs l, b.off l])) → Q (.ref r) H'
section
variable {P : Program} {w : World} {K : PySem.W.Frag} {mg : Str → Option Value} {base : Heap} {C : Addr}
theorem scGs : FnScope ["self", "plan", "left", "right"] ["self", "plan"] (defScope sGaps) := ⟨rfl, rfl, rfl, by decide +kernel, rfl, by decide +kernel, by decide +kernel⟩
theorem ok_gaps {f fP fG : Addr} {fd fdP fdG : FuncData} (F : Fun K "gaps" "Box.gaps" sGaps f fd) (T : Txt K mg C) (MP : M1 K C "paired" "Box.paired" sPaired ["self", "plan"] fP fdP) (MG : M1 K C "gap" "Box.gap" sGap ["self", "left", "right"] fG fdG) :
    FnOk P w K mg base CX0 2 f fd ["self", "plan"] (spGaps K C) := by
  have GP : FnOk P w K mg base CX0 1 fP fdP ["self", "plan"] (spPaired K C) := ok_paired MP.F T
  have GG : FnOk P w K mg base CX0 1 fG fdG ["self", "left", "right"] (spGap C) := ok_gap MG.F T
  refine F.ok scGs (fun vs H Q E h => ?_) (fun cdv A outer s H vs Q E hr h => ?_)
  · obtain ⟨p, la, ra, g, b, l, rfl, _⟩ := h
    rfl
  · obtain ⟨p, la, ra, g, b, l, rfl, B, hg, hl, ht, k⟩ := h
    refine ⟨_, pss_one (ps_ret (pe_lc (own := [("left", 2), ("right", 3)]) (g := gTup K 2 (gCons (gName 2) (gCons (gName 3) gNil))) (tt := tYes) rfl scGs.nd (pi_list (pe_meth (pv 0) T.cl MP.m GP hr MP.y .nil pass0 (pa_cons (pv 1) pa_nil)))
        (blkOk_by (own := [("left", 2), ("right", 3)]) (N := ["self", "plan", "left", "right"]) (sc := defScope sGaps) (by decide +kernel))
        (fun _ _ _ _ _ => pg_tup rfl (pgs_cons (pg_name (i := 2) scGs.nd rfl (Or.inl rfl)) (pgs_cons (pg_name (i := 3) scGs.nd rfl (Or.inl rfl)) pgs_nil)))
        (fun _ _ _ _ _ => pts_nil)
        (fun _ _ _ _ _ => pe_meth (pv 0) T.cl MG.m GG hr MG.y .nil pass0 (pa_cons (pv 2) (pa_cons (pv 3) pa_nil))))), ?_⟩
    obtain ⟨dx, hp⟩ := B.obj
    refine ⟨_, rfl, p, dx, _, rfl, hp, bF_no _ _ _ (by decide +kernel) (by decide +kernel) (by decide +kernel), _, rfl, p, la, ra, g, b, l, rfl, B, hg, hl, fun H3 q s3 nq tq => ?_⟩
    obtain ⟨ts, hq, hlen, htup⟩ := tq
    refine ⟨q, rfl, ⟨_, SqL.of hq⟩, fun D hD => ?_⟩
    refine lc_list (K := K) (a := q) (xs := ts.map V.ref) (fun i H4 => Same H3 H4 ∧ H4 D = some (.lst (nv (((paired b.none_ l).take i).map fun x => b.differ x.1 x.2)))) ⟨Same.new hD, upd_same⟩ (fun i H4 _ h => SqL.of (h.1 _ _ hq)) ?_ ?_
    · rintro i y H4 hi ⟨s4, hD4⟩
      obtain ⟨t, e1, rfl⟩ : ∃ t, ts[i]? = some t ∧ y = V.ref t := by
        rw [List.getElem?_map] at hi
        cases e : ts[i]? with
        | none =>
          rw [e] at hi
          cases hi
        | some t =>
          rw [e] at hi
          exact ⟨t, rfl, (Option.some.inj hi).symm⟩
      have hi' := (List.getElem?_eq_some_iff.mp e1).1
      obtain ⟨x, e2⟩ : ∃ x, (paired b.none_ l)[i]? = some x := ⟨_, List.getElem?_eq_getElem (by omega)⟩
      obtain ⟨x1, x2⟩ := far_ok ht (List.mem_of_getElem? e2)
      refine ⟨t, _, rfl, SqT.of (s4 _ _ (htup i t x e1 e2)), rfl, _, _, rfl, _, _, rfl, rfl, rfl, ?_⟩
      refine ⟨_, rfl, p, dx, _, rfl, s4 _ _ (s3 _ _ hp), bF_no _ _ _ (by decide +kernel) (by decide +kernel) (by decide +kernel), _, rfl, _, rfl, p, la, ra, b, x.1, x.2, rfl, B.same (s3.trans s4), x1, x2, ?_⟩
      refine ⟨_, hD4, ?_, ?_, ?_⟩
      · rw [nv_len, List.length_map, List.length_take]
        have h1 := paired_le b.none_ l
        have : 1000 < sizeLine := by decide
        omega
      · intro a o e
        have : a ≠ D := ne_of_none e hD
        rw [upd_ne this]
        exact s4 a o e
      · rw [upd_same, nv_snoc]
        congr 3
        rw [List.take_succ, e2, List.map_append]
        rfl
    · rintro H4 ⟨s4, hD4⟩
      rw [List.length_map, hlen, List.take_length] at hD4
      exact k H4 D (s3.trans s4) (Same.free s3 hD) hD4
theorem scPo : FnScope ["self", "plan"] ["self", "plan"] (defScope sPairsOf) := ⟨rfl, rfl, rfl, by decide +kernel, rfl, by decide +kernel, by decide +kernel⟩
theorem ok_pairsOf {f fP : Addr} {fd fdP : FuncData} (F : Fun K "pairs_of" "Box.pairs_of" sPairsOf f fd) (T : Txt K mg C) (MP : M1 K C "paired" "Box.paired" sPaired ["self", "plan"] fP fdP) :
    FnOk P w K mg base CX0 2 f fd ["self", "plan"] (spPairsOf K C) := by
  have GP : FnOk P w K mg base CX0 1 fP fdP ["self", "plan"] (spPaired K C) := ok_paired MP.F T
  refine F.ok scPo (fun vs H Q E h => ?_) (fun cdv A outer s H vs Q E hr h => ?_)
  · obtain ⟨p, la, ra, g, b, l, rfl, _⟩ := h
    rfl
  · obtain ⟨p, la, ra, g, b, l, rfl, B, hg, hl, k⟩ := h
    refine ⟨_, pss_one (ps_ret (pe_callB call_len_seq (by rfl) T.len PySem.boot_len (pa_cons (pe_meth (pv 0) T.cl MP.m GP hr MP.y .nil pass0 (pa_cons (pv 1) pa_nil)) pa_nil))), ?_⟩
    obtain ⟨dx, hp⟩ := B.obj
    refine ⟨_, rfl, p, dx, _, rfl, hp, bF_no _ _ _ (by decide +kernel) (by decide +kernel) (by decide +kernel), _, rfl, p, la, ra, g, b, l, rfl, B, hg, hl, fun H3 q s3 nq tq => ?_⟩
    obtain ⟨ts, hq, hlen, _⟩ := tq
    refine ⟨q, _, rfl, .inl (SqL.of hq), ?_⟩
    have h := k H3 s3
    rw [pairs_is, ← hlen] at h
    rw [List.length_map]
    exact h
theorem scOf : FnScope ["self", "plan"] ["self", "plan"] (defScope sOff) := ⟨rfl, rfl, rfl, by decide +kernel, rfl, by decide +kernel, by decide +kernel⟩
theorem ok_off {f fP fG fS : Addr} {fd fdP fdG fdS : FuncData} (F : Fun K "off" "Box.off" sOff f fd) (T : Txt K mg C) (MP : M1 K C "paired" "Box.paired" sPaired ["self", "plan"] fP fdP) (MG : M1 K C "gap" "Box.gap" sGap ["self", "left", "right"] fG fdG)
    (MS : M1 K C "gaps" "Box.gaps" sGaps ["self", "plan"] fS fdS) : FnOk P w K mg base CX0 3 f fd ["self", "plan"] (spOff K C) := by
  have GS : FnOk P w K mg base CX0 2 fS fdS ["self", "plan"] (spGaps K C) := ok_gaps MS.F T MP MG
  refine F.ok scOf (fun vs H Q E h => ?_) (fun cdv A outer s H vs Q E hr h => ?_)
  · obtain ⟨p, la, ra, g, b, l, rfl, _⟩ := h
    rfl
  · obtain ⟨p, la, ra, g, b, l, rfl, B, hg, hl, ht, k⟩ := h
    refine ⟨_, pss_one (ps_ret (pe_callB (cr_sum rfl) (by rfl) T.sum (by decide +kernel) (pa_cons (pe_meth (pv 0) T.cl MS.m GS hr MS.y .nil pass0 (pa_cons (pv 1) pa_nil)) pa_nil))), ?_⟩
    obtain ⟨dx, hp⟩ := B.obj
    refine ⟨_, rfl, p, dx, _, rfl, hp, bF_no _ _ _ (by decide +kernel) (by decide +kernel) (by decide +kernel), _, rfl, p, la, ra, g, b, l, rfl, B, hg, hl, ht, fun H3 q s3 nq hq => ?_⟩
    refine ⟨q, _, rfl, SqL.nat hq, ?_⟩
    have h := k H3 s3
    rw [off_is] at h
    rw [nat_sum]
    exact h
theorem scWi : FnScope ["self", "plan"] ["self", "plan"] (defScope sWidest) := ⟨rfl, rfl, rfl, by decide +kernel, rfl, by decide +kernel, by decide +kernel⟩
theorem ok_widest {f fP fG fS : Addr} {fd fdP fdG fdS : FuncData} (F : Fun K "widest" "Box.widest" sWidest f fd) (T : Txt K mg C) (MP : M1 K C "paired" "Box.paired" sPaired ["self", "plan"] fP fdP) (MG : M1 K C "gap" "Box.gap" sGap ["self", "left", "right"] fG fdG)
    (MS : M1 K C "gaps" "Box.gaps" sGaps ["self", "plan"] fS fdS) : FnOk P w K mg base CX0 3 f fd ["self", "plan"] (spWidest K C) := by
  have GS : FnOk P w K mg base CX0 2 fS fdS ["self", "plan"] (spGaps K C) := ok_gaps MS.F T MP MG
  refine F.ok scWi (fun vs H Q E h => ?_) (fun cdv A outer s H vs Q E hr h => ?_)
  · obtain ⟨p, la, ra, g, b, l, rfl, _⟩ := h
    rfl
  · obtain ⟨p, la, ra, g, b, l, rfl, B, hg, hl, ht, k⟩ := h
    refine ⟨_, pss_one (ps_ret (pe_callBK (ks := [Str.ofString "default"]) (cr_maxDef rfl) (by rfl) T.max (by decide +kernel) (pa_cons (pe_meth (pv 0) T.cl MS.m GS hr MS.y .nil pass0 (pa_cons (pv 1) pa_nil)) pa_nil) (pk_cons pe_int pk_nil))), ?_⟩
    obtain ⟨dx, hp⟩ := B.obj
    refine ⟨_, rfl, p, dx, _, rfl, hp, bF_no _ _ _ (by decide +kernel) (by decide +kernel) (by decide +kernel), _, rfl, p, la, ra, g, b, l, rfl, B, hg, hl, ht, fun H3 q s3 nq hq => ?_⟩
    have h := k H3 s3
    refine ⟨q, _, 0, rfl, rfl, SqL.nat hq, fun z => ?_, fun z m hm hall => ?_⟩
    · rw [worst_none (List.map_eq_nil_iff.mp z)] at h
      exact h
    · obtain ⟨m', hm', rfl⟩ := List.mem_map.mp hm
      rw [worst_some hm' fun y hy => by
        have := hall _ (List.mem_map.mpr ⟨y, hy, rfl⟩)
        omega] at h
      exact h
theorem scMe : FnScope ["self", "plan"] ["self", "plan"] (defScope sMeasured) := ⟨rfl, rfl, rfl, by decide +kernel, rfl, by decide +kernel, by decide +kernel⟩
theorem ok_measured {f fP fG fS fN fO : Addr} {fd fdP fdG fdS fdN fdO : FuncData} (F : Fun K "measured" "Box.measured" sMeasured f fd) (T : Txt K mg C) (MP : M1 K C "paired" "Box.paired" sPaired ["self", "plan"] fP fdP) (MG : M1 K C "gap" "Box.gap" sGap ["self", "left", "right"] fG fdG)
    (MS : M1 K C "gaps" "Box.gaps" sGaps ["self", "plan"] fS fdS) (MN : M1 K C "pairs_of" "Box.pairs_of" sPairsOf ["self", "plan"] fN fdN) (MO : M1 K C "off" "Box.off" sOff ["self", "plan"] fO fdO) : FnOk P w K mg base CX0 4 f fd ["self", "plan"] (spMeasured K C) := by
  have GN : FnOk P w K mg base CX0 2 fN fdN ["self", "plan"] (spPairsOf K C) := ok_pairsOf MN.F T MP
  have GO : FnOk P w K mg base CX0 3 fO fdO ["self", "plan"] (spOff K C) := ok_off MO.F T MP MG MS
  refine F.ok scMe (fun vs H Q E h => ?_) (fun cdv A outer s H vs Q E hr h => ?_)
  · obtain ⟨p, la, ra, g, b, l, rfl, _⟩ := h
    rfl
  · obtain ⟨p, la, ra, g, b, l, rfl, B, hg, hl, ht, k⟩ := h
    refine ⟨_, pss_one (ps_ret (pe_lst (pa_cons (pe_meth (pv 0) T.cl MN.m GN (hr.mono (by decide)) MN.y .nil pass0 (pa_cons (pv 1) pa_nil)) (pa_cons (pe_meth (pv 0) T.cl MO.m GO hr MO.y .nil pass0 (pa_cons (pv 1) pa_nil)) pa_nil)))), ?_⟩
    obtain ⟨dx, hp⟩ := B.obj
    refine ⟨_, rfl, p, dx, _, rfl, hp, bF_no _ _ _ (by decide +kernel) (by decide +kernel) (by decide +kernel), _, rfl, p, la, ra, g, b, l, rfl, B, hg, hl, fun H3 s3 => ?_⟩
    refine ⟨_, rfl, p, dx, _, rfl, s3 _ _ hp, bF_no _ _ _ (by decide +kernel) (by decide +kernel) (by decide +kernel), _, rfl, p, la, ra, g, b, l, rfl, B.same s3, s3.seq hg, hl, ht, fun H4 s4 => ?_⟩
    refine ⟨by show 2 ≤ sizeLine; decide, fun r hr => ?_⟩
    exact k _ r ((s3.trans s4).trans (Same.new hr)) (Same.free (s3.trans s4) hr) upd_same
end
end Gp
namespace Gp
open PySem PySem.Spec PyProof.Rows L2
open PySem.W (Codec)
section
variable {P : Program} {w : World} {K : PySem.W.Frag} {mg : Str → Option Value} {base : Heap} {C : Addr}
theorem scC : FnScope ["self", "plan", "far", "again"] ["self", "plan"] (defScope sCheck) := ⟨rfl, rfl, rfl, by decide +kernel, rfl, by decide +kernel, by decide +kernel⟩
theorem ok_check {f fI fP fG fF fA fS fN fO fM : Addr} {fd fdI fdP fdG fdF fdA fdS fdN fdO fdM : FuncData} (F : Fun K "check" "Box.check" sCheck f fd) (T : Txt K mg C)
    (MI : M1 K C "is_plan" "Box.is_plan" sIsPlan ["self", "plan"] fI fdI) (MP : M1 K C "paired" "Box.paired" sPaired ["self", "plan"] fP fdP) (MG : M1 K C "gap" "Box.gap" sGap ["self", "left", "right"] fG fdG)
    (MF : M1 K C "first_too_far" "Box.first_too_far" sFar ["self", "plan"] fF fdF) (MA : M1 K C "first_told_again" "Box.first_told_again" sAgain ["self", "plan"] fA fdA)
    (MS : M1 K C "gaps" "Box.gaps" sGaps ["self", "plan"] fS fdS) (MN : M1 K C "pairs_of" "Box.pairs_of" sPairsOf ["self", "plan"] fN fdN) (MO : M1 K C "off" "Box.off" sOff ["self", "plan"] fO fdO)
    (MM : M1 K C "measured" "Box.measured" sMeasured ["self", "plan"] fM fdM) : FnOk P w K mg base CX0 5 f fd ["self", "plan"] (spCheck K C) := by
  have GI : FnOk P w K mg base CX0 1 fI fdI ["self", "plan"] (spIsPlan K C) := ok_isPlan MI.F T
  have GF : FnOk P w K mg base CX0 2 fF fdF ["self", "plan"] (spFar K C) := ok_far MF.F T MP.F MP.y MP.m MG.F MG.y MG.m
  have GA : FnOk P w K mg base CX0 2 fA fdA ["self", "plan"] (spAgain K C) := ok_again MA.F T MP.F MP.y MP.m
  have GM : FnOk P w K mg base CX0 4 fM fdM ["self", "plan"] (spMeasured K C) := ok_measured MM.F T MP MG MS MN MO
  refine F.ok scC (fun vs H Q E h => ?_) (fun cdv A outer s H vs Q E hr h => ?_)
  · obtain ⟨p, la, ra, g, b, l, rfl, _⟩ := h
    rfl
  · obtain ⟨p, la, ra, g, b, l, rfl, B, hg, hl, k⟩ := h
    have hr1 : Room 1 _ := hr.mono (by decide)
    have hr2 : Room 2 _ := hr.mono (by decide)
    refine ⟨_, pss_cons (ps_if (pt_not (pt_val (pe_meth (pv 0) T.cl MI.m GI hr1 MI.y .nil pass0 (pa_cons (pv 1) pa_nil)))) (pss_one (ps_ret (pe_lst (pa_cons (pe_un un_neg pe_int) pa_nil)))) pss_nil)
      (pss_cons (ps_set (i := 2) scC.nd rfl (Or.inl rfl) (pe_meth (pv 0) T.cl MF.m GF hr2 MF.y .nil pass0 (pa_cons (pv 1) pa_nil)))
      (pss_cons (ps_if (pt_cmpR op_notN (pv 2) pe_non (nomark _)) (pss_one (ps_ret (pe_lst (pa_cons (pe_un un_neg pe_int) (pa_cons (pv 2) pa_nil))))) pss_nil)
      (pss_cons (ps_set (i := 3) scC.nd rfl (Or.inl rfl) (pe_meth (pv 0) T.cl MA.m GA hr2 MA.y .nil pass0 (pa_cons (pv 1) pa_nil)))
      (pss_cons (ps_if (pt_cmpR op_notN (pv 3) pe_non (nomark _)) (pss_one (ps_ret (pe_lst (pa_cons (pe_un un_neg pe_int) (pa_cons (pv 3) pa_nil))))) pss_nil)
      (pss_one (ps_ret (pe_meth (pv 0) T.cl MM.m GM hr MM.y .nil pass0 (pa_cons (pv 1) pa_nil)))))))), ?_⟩
    obtain ⟨dx, hp⟩ := B.obj
    have no : ∀ {H' : Hp}, Same H H' → H' p = some (.ins C dx (Gp.bF la ra b.limit)) := fun s => s _ _ hp
    refine ⟨_, rfl, p, dx, _, rfl, hp, bF_no _ _ _ (by decide +kernel) (by decide +kernel) (by decide +kernel), _, rfl, p, la, ra, g, b, l, rfl, B, hg, _, rfl, ?_⟩
    have st : Si90.step b (.check l) = if b.told l = false then (b, Si90.ok (-1)) else (b, match b.bad l with
      | some i => ⟨-6, Si90.ints [i]⟩
      | none => match b.twice l with
        | some i => ⟨-7, Si90.ints [i]⟩
        | none => ⟨((b.pairs l : Nat) : Int), Si90.ints [b.off l]⟩) := rfl
    cases ht : b.told l with
    | false =>
      refine if_yes (by rfl) ?_
      refine ⟨_, rfl, (by show 1 ≤ sizeLine; decide), fun r hr => ?_⟩
      refine k _ r (Same.new hr) hr ?_
      rw [upd_same, st, if_pos ht]
      rfl
    | true =>
      rw [ht, if_neg (by decide)] at st
      refine if_no (by rfl) ?_
      refine ⟨_, rfl, p, dx, _, rfl, hp, bF_no _ _ _ (by decide +kernel) (by decide +kernel) (by decide +kernel), _, rfl, p, la, ra, g, b, l, rfl, B, hg, hl, ht, fun H1 s1 => ?_⟩
      refine ⟨_, rfl, rfl, _, rfl, ?_⟩
      cases hb : b.bad l with
      | some i =>
        rw [hb] at st
        refine if_yes (by rfl) ?_
        refine ⟨_, rfl, _, rfl, (by show 2 ≤ sizeLine; decide), fun r hr => ?_⟩
        refine k _ r (s1.trans (Same.new hr)) (Same.free s1 hr) ?_
        rw [upd_same, st]
        rfl
      | none =>
        rw [hb] at st
        refine if_no (by rfl) ?_
        refine ⟨_, rfl, p, dx, _, rfl, no s1, bF_no _ _ _ (by decide +kernel) (by decide +kernel) (by decide +kernel), _, rfl, p, la, ra, g, b, l, rfl, B.same s1, s1.seq hg, hl, fun H2 s2 => ?_⟩
        have s12 := s1.trans s2
        refine ⟨_, rfl, rfl, _, rfl, ?_⟩
        cases hw : b.twice l with
        | some i =>
          rw [hw] at st
          refine if_yes (by rfl) ?_
          refine ⟨_, rfl, _, rfl, (by show 2 ≤ sizeLine; decide), fun r hr => ?_⟩
          refine k _ r (s12.trans (Same.new hr)) (Same.free s12 hr) ?_
          rw [upd_same, st]
          rfl
        | none =>
          rw [hw] at st
          refine if_no (by rfl) ?_
          refine ⟨_, rfl, p, dx, _, rfl, no s12, bF_no _ _ _ (by decide +kernel) (by decide +kernel) (by decide +kernel), _, rfl, p, la, ra, g, b, l, rfl, B.same s12, s12.seq hg, hl, ht, fun H3 r s3 nr hr3 => ?_⟩
          refine k H3 r (s12.trans s3) (Same.free s12 nr) ?_
          rw [hr3, st]
          rfl
end
end Gp
namespace Gp
open PySem PySem.Spec PyProof.Rows L2
open PySem.W (Codec)
/-! ### choices, plans -/
theorem nv_app (a b : List Nat) : nv (a ++ b) = nv a ++ nv b := by
  unfold nv
  rw [List.map_append]
theorem filter_more (p : Nat → Bool) (k : Nat) : (List.range (k + 1)).filter p = (List.range k).filter p ++ (if p k = true then [k] else []) := by
  rw [List.range_succ, List.filter_append, List.filter_cons]
  split <;> rfl
theorem filter_took (p : Nat → Bool) (l : List Nat) (i t : Nat) (h : l[i]? = some t) : (l.take (i + 1)).filter p = (l.take i).filter p ++ (if p t = true then [t] else []) := by
  rw [List.take_add_one, h, List.filter_append]
  show _ ++ List.filter p [t] = _
  rw [List.filter_cons]
  split <;> rfl
theorem line6000 {n : Nat} (h : n ≤ 10000) : n < sizeLine := Nat.lt_of_le_of_lt h (by decide)
theorem nv_item {l : List Nat} {i : Nat} {x : V} (h : (nv l)[i]? = some x) : ∃ t, l[i]? = some t ∧ x = V.int ((t : Nat) : Int) := by
  unfold nv at h
  rw [List.getElem?_map] at h
  cases e : l[i]? with
  | none =>
    rw [e] at h
    cases h
  | some t =>
    rw [e] at h
    exact ⟨t, rfl, (Option.some.inj h).symm⟩
def spChoices (C : Addr) : Sp := fun vs H Q _ => ∃ (p la ra g : Addr) (b : Si90.Box) (i d : Nat) (l : List Nat), vs = [.ref p, .int ((i : Nat) : Int), .ref g, .int ((d : Nat) : Int)] ∧ BoxAt C H p la ra b ∧ i < b.lefts.length ∧ b.rights.length ≤ 5 ∧ H g = some (.lst (nv l)) ∧
  ∀ (H' : Hp) (q : Addr), Same H H' → H q = none → H' q = some (.lst (nv (chosen (at_ b d) i l))) → Q (.ref q) H'
section
variable {P : Program} {w : World} {K : PySem.W.Frag} {mg : Str → Option Value} {base : Heap} {C : Addr}
theorem scCh : FnScope ["self", "left", "plan", "differ", "none", "free", "right"] ["self", "left", "plan", "differ"] (defScope sChoices) := ⟨rfl, rfl, rfl, by decide +kernel, rfl, by decide +kernel, by decide +kernel⟩
theorem ok_choices {f fG : Addr} {fd fdG : FuncData} (F : Fun K "choices" "Box.choices" sChoices f fd) (T : Txt K mg C) (MG : M1 K C "gap" "Box.gap" sGap ["self", "left", "right"] fG fdG) :
    FnOk P w K mg base CX0 2 f fd ["self", "left", "plan", "differ"] (spChoices C) := by
  have GG : FnOk P w K mg base CX0 1 fG fdG ["self", "left", "right"] (spGap C) := ok_gap MG.F T
  refine F.ok scCh (fun vs H Q E h => ?_) (fun cdv A outer s H vs Q E hr h => ?_)
  · obtain ⟨p, la, ra, g, b, i, d, l, rfl, _⟩ := h
    rfl
  · obtain ⟨p, la, ra, g, b, i, d, l, rfl, B, hi, h5, hg, k⟩ := h
    refine ⟨_, pss_cons (ps_set (i := 4) scCh.nd rfl (Or.inl rfl) (pe_callB call_len_seq (by rfl) T.len PySem.boot_len (pa_cons (pe_fld (pv 0) rfl) pa_nil)))
      (pss_cons (ps_setLc (i := 5) (own := [("right", 6)]) (g := gName 6) rfl scCh.nd rfl rfl (sw_true rfl rfl rfl (by decide +kernel)) (pi_range1 rfl T.range (pa_cons (pv 4) pa_nil))
        (blkOk_by (own := [("right", 6)]) (N := ["self", "left", "plan", "differ", "none", "free", "right"]) (sc := defScope sChoices) (by decide +kernel))
        (fun _ _ _ _ _ => pg_name (i := 6) scCh.nd rfl (Or.inl rfl))
        (fun _ _ _ _ _ => pts_one (pt_cmpR (r := rIn K true) op_notIn_seq (pv 6) (pv 2) (by rfl)))
        (fun _ _ _ _ _ => pv 6))
      (pss_one (ps_ret (pe_op op_cat (pe_lc (own := [("right", 6)]) (g := gName 6) rfl scCh.nd (pi_list (pv 5))
        (blkOk_by (own := [("right", 6)]) (N := ["self", "left", "plan", "differ", "none", "free", "right"]) (sc := defScope sChoices) (by decide +kernel))
        (fun _ _ _ _ _ => pg_name (i := 6) scCh.nd rfl (Or.inl rfl))
        (fun _ _ _ _ _ => pts_one (pt_cmpR op_le (pe_meth (pv 0) T.cl MG.m GG hr MG.y .nil pass0 (pa_cons (pv 1) (pa_cons (pv 6) pa_nil))) (pv 3) (nomark _)))
        (fun _ _ _ _ _ => pv 6)) (pe_lst (pa_cons (pv 4) pa_nil)))))), ?_⟩
    obtain ⟨dx, hp⟩ := B.obj
    have nr : (nv b.rights).length = b.none_ := nv_len _
    refine ⟨_, rfl, p, C, dx, _, _, rfl, hp, T.cl, T.nR, bF_r _ _ _, ra, _, rfl, .inl (SqL.of B.rs), ?_⟩
    rw [nr]
    refine ⟨_, rfl, _, rfl, (by omega), (by unfold Si90.Box.none_; omega), fun D hD => ?_⟩
    refine lc_range (lo := 0) (n := b.none_) (fun k H2 => Same H H2 ∧ H2 D = some (.lst (nv ((List.range k).filter fun t => decide (t ∉ l))))) ⟨Same.new hD, upd_same⟩ ?_ ?_
    · rintro t H2 ht ⟨s2, h2⟩
      refine ⟨rfl, ?_⟩
      refine ⟨_, rfl, _, rfl, g, _, rfl, .inl (SqL.of (s2 _ _ hg)), rfl, flat_nv l, _, rfl, ?_⟩
      have e0 : (0 : Int) + ((t : Nat) : Int) = ((t : Nat) : Int) := Int.zero_add _
      by_cases c : t ∈ l
      · refine if_no ?_ ⟨s2, ?_⟩
        · rw [if_pos rfl, e0, inV_nv, decide_eq_true c]
          rfl
        · rw [filter_more, if_neg (by simpa using c), List.append_nil]
          exact h2
      · refine if_yes ?_ ?_
        · rw [if_pos rfl, e0, inV_nv, decide_eq_false c]
          rfl
        · refine ⟨_, rfl, _, h2, ?_, fun a o e => ?_, ?_⟩
          · rw [nv_len]
            refine line6000 (Nat.le_trans (List.length_filter_le _ _) ?_)
            rw [List.length_range]
            unfold Si90.Box.none_ at ht
            omega
          · rw [upd_ne (ne_of_none e hD)]
            exact s2 a o e
          · rw [upd_same, filter_more, if_pos (by simpa using c), e0, nv_snoc]
    · rintro H2 ⟨s2, h2⟩
      have h2 : H2 D = some (.lst (nv (free b l))) := h2
      refine ⟨_, rfl, D, rfl, ⟨_, SqL.of h2⟩, fun D2 hD2 => ?_⟩
      have few : (free b l).length ≤ 5 := by
        unfold free Si90.Box.none_
        refine Nat.le_trans (List.length_filter_le _ _) ?_
        rw [List.length_range]
        exact h5
      refine lc_list (K := K) (a := D) (xs := nv (free b l)) (fun j H3 => Same H2 H3 ∧ H3 D2 = some (.lst (nv (((free b l).take j).filter fun t => decide (b.differ i t ≤ d))))) ⟨Same.new hD2, upd_same⟩ (fun j H3 _ h => SqL.of (h.1 _ _ h2)) ?_ ?_
      · rintro j x H3 hj ⟨s3, h3⟩
        obtain ⟨t, et, rfl⟩ := nv_item hj
        have ht : t < b.rights.length := List.mem_range.mp (List.mem_filter.mp (List.mem_of_getElem? et)).1
        refine ⟨rfl, ?_⟩
        have s23 := s2.trans s3
        refine ⟨_, rfl, p, dx, _, rfl, s23 _ _ hp, bF_no _ _ _ (by decide +kernel) (by decide +kernel) (by decide +kernel), _, rfl, _, rfl, p, la, ra, b, i, t, rfl, B.same s23, hi, ht, ?_⟩
        refine ⟨_, rfl, _, _, rfl, rfl, _, rfl, ?_⟩
        by_cases c : b.differ i t ≤ d
        · refine if_yes (decide_eq_true (by omega)) ?_
          refine ⟨_, rfl, _, h3, ?_, fun a o e => ?_, ?_⟩
          · rw [nv_len]
            refine line6000 (Nat.le_trans (List.length_filter_le _ _) ?_)
            rw [List.length_take]
            omega
          · rw [upd_ne (ne_of_none e hD2)]
            exact s3 a o e
          · rw [upd_same, filter_took _ _ _ _ et, if_pos (decide_eq_true c), nv_snoc]
        · refine if_no (decide_eq_false (by omega)) ⟨s3, ?_⟩
          rw [filter_took _ _ _ _ et, if_neg (by rw [decide_eq_true_eq]; exact c), List.append_nil]
          exact h3
      · rintro H3 ⟨s3, h3⟩
        rw [nv_len, List.take_length] at h3
        have s23 := s2.trans s3
        refine ⟨_, rfl, (by show 1 ≤ sizeLine; decide), fun m hm => ?_⟩
        have n2 : D2 ≠ m := ne_of_none h3 hm
        refine ⟨D2, m, _, _, rfl, rfl, (by rw [upd_ne n2]; exact h3), upd_same, ?_, fun q hq => ?_⟩
        · rw [nv_len]
          refine Nat.le_of_lt (line6000 ?_)
          have h1 : ((free b l).filter fun t => decide (b.differ i t ≤ d)).length ≤ 5 := Nat.le_trans (List.length_filter_le _ _) few
          show _ + 1 ≤ 10000
          omega
        · have s4 : Same H3 (upd H3 m (.lst [V.int ((b.none_ : Nat) : Int)])) := Same.new hm
          refine k _ q ((s23.trans s4).trans (Same.new hq)) (Same.free (s23.trans s4) hq) ?_
          rw [upd_same, nv_snoc]
          rfl
end
end Gp
namespace Gp
open PySem PySem.Spec PyProof.Rows L2
open PySem.W (Codec)
/-- a list of lists of numbers at q: the lists are new since H0 -/
def ListsAt (H0 H : Hp) (q : Addr) (ls : List (List Nat)) : Prop := ∃ ts : List Addr, H q = some (.lst (ts.map V.ref)) ∧ ts.length = ls.length ∧ (∀ t ∈ ts, H0 t = none ∧ t ≠ q) ∧
  ∀ (i : Nat) (t : Addr) (l : List Nat), ts[i]? = some t → ls[i]? = some l → H t = some (.lst (nv l))
theorem ListsAt.same {H0 H H' : Hp} {q : Addr} {ls : List (List Nat)} (h : ListsAt H0 H q ls) (s : Same H H') : ListsAt H0 H' q ls := by
  obtain ⟨ts, h1, h2, h3, h4⟩ := h
  exact ⟨ts, s _ _ h1, h2, h3, fun i t l a b => s _ _ (h4 i t l a b)⟩
theorem ListsAt.old {H0 H1 H : Hp} {q : Addr} {ls : List (List Nat)} (h : ListsAt H1 H q ls) (s : Same H0 H1) : ListsAt H0 H q ls := by
  obtain ⟨ts, h1, h2, h3, h4⟩ := h
  exact ⟨ts, h1, h2, fun t ht => ⟨Same.free s (h3 t ht).1, (h3 t ht).2⟩, h4⟩
theorem ListsAt.nil {H0 H : Hp} {q : Addr} (h : H q = some (.lst [])) : ListsAt H0 H q [] := ⟨[], h, rfl, by simp, fun i t l a _ => by simp at a⟩
/-- so many behind -/
theorem lists_app {H0 H' : Hp} {q : Addr} {ls ms : List (List Nat)} {ts us : List Addr} (l1 : ts.length = ls.length) (l2 : us.length = ms.length) (f1 : ∀ t ∈ ts, H0 t = none ∧ t ≠ q) (f2 : ∀ t ∈ us, H0 t = none ∧ t ≠ q)
    (a1 : ∀ (i : Nat) (t : Addr) (l : List Nat), ts[i]? = some t → ls[i]? = some l → H' t = some (.lst (nv l))) (a2 : ∀ (i : Nat) (t : Addr) (l : List Nat), us[i]? = some t → ms[i]? = some l → H' t = some (.lst (nv l)))
    (hq : H' q = some (.lst (ts.map V.ref ++ us.map V.ref))) : ListsAt H0 H' q (ls ++ ms) := by
  refine ⟨ts ++ us, by rw [List.map_append]; exact hq, by rw [List.length_append, List.length_append, l1, l2], fun t ht => ?_, fun i t l h1 h2 => ?_⟩
  · rcases List.mem_append.mp ht with h | h
    · exact f1 t h
    · exact f2 t h
  · by_cases c : i < ts.length
    · rw [List.getElem?_append_left c] at h1
      rw [List.getElem?_append_left (by omega)] at h2
      exact a1 i t l h1 h2
    · rw [List.getElem?_append_right (by omega)] at h1
      rw [List.getElem?_append_right (by omega), ← l1] at h2
      exact a2 _ t l h1 h2
theorem lists_item {H : Hp} {ls : List (List Nat)} {ts : List Addr} (h2 : ts.length = ls.length) (h4 : ∀ (i : Nat) (t : Addr) (l : List Nat), ts[i]? = some t → ls[i]? = some l → H t = some (.lst (nv l))) {j : Nat} {y : V} (hj : (ts.map V.ref)[j]? = some y) :
    ∃ (t : Addr) (l : List Nat), ts[j]? = some t ∧ y = V.ref t ∧ ls[j]? = some l ∧ H t = some (.lst (nv l)) := by
  rw [List.getElem?_map] at hj
  cases e : ts[j]? with
  | none =>
    rw [e] at hj
    cases hj
  | some t =>
    rw [e] at hj
    have hlt := (List.getElem?_eq_some_iff.mp e).1
    have el : ls[j]? = some ls[j] := List.getElem?_eq_getElem (by omega)
    exact ⟨t, _, rfl, (Option.some.inj hj).symm, el, h4 j t _ e el⟩
theorem take_flat {α β : Type} (f : α → List β) (l : List α) (j : Nat) (x : α) (h : l[j]? = some x) : (l.take (j + 1)).flatMap f = (l.take j).flatMap f ++ f x := by
  rw [List.take_add_one, h, List.flatMap_append]
  show _ ++ List.flatMap f [x] = _
  rw [List.flatMap_cons, List.flatMap_nil, List.append_nil]
theorem take_flat_le {α β : Type} (f : α → List β) (l : List α) (j : Nat) : ((l.take j).flatMap f).length ≤ (l.flatMap f).length := by
  conv => rhs; rw [← List.take_append_drop j l]
  rw [List.flatMap_append, List.length_append]
  omega
def longerBy (b : Si90.Box) (i : Nat) (l : List Nat) : List (List Nat) := (chosen b i l).map fun t => l ++ [t]
def spPlans (C : Addr) : Sp := fun vs H Q _ => ∃ (p la ra : Addr) (b : Si90.Box) (d : Nat), vs = [.ref p, .int ((d : Nat) : Int)] ∧ BoxAt C H p la ra b ∧ Ok b ∧
  ∀ (H' : Hp) (q : Addr), Same H H' → H q = none → ListsAt H H' q (at_ b d).plans → Q (.ref q) H'
section
variable {P : Program} {w : World} {K : PySem.W.Frag} {mg : Str → Option Value} {base : Heap} {C : Addr}
theorem scPs : FnScope ["self", "differ", "begun", "left", "longer", "plan", "right"] ["self", "differ"] (defScope sPlans) := ⟨rfl, rfl, rfl, by decide +kernel, rfl, by decide +kernel, by decide +kernel⟩
theorem ok_plans {f fG fC : Addr} {fd fdG fdC : FuncData} (F : Fun K "plans" "Box.plans" sPlans f fd) (T : Txt K mg C) (MG : M1 K C "gap" "Box.gap" sGap ["self", "left", "right"] fG fdG)
    (MC : M1 K C "choices" "Box.choices" sChoices ["self", "left", "plan", "differ"] fC fdC) : FnOk P w K mg base CX0 3 f fd ["self", "differ"] (spPlans C) := by
  have GC : FnOk P w K mg base CX0 2 fC fdC ["self", "left", "plan", "differ"] (spChoices C) := ok_choices MC.F T MG
  refine F.ok scPs (fun vs H Q E h => ?_) (fun cdv A outer s H vs Q E hr h => ?_)
  · obtain ⟨p, la, ra, b, d, rfl, _⟩ := h
    rfl
  · obtain ⟨p, la, ra, b, d, rfl, B, ob, k⟩ := h
    refine ⟨_, pss_cons (ps_set (i := 2) scPs.nd rfl (Or.inl rfl) (pe_lst (pa_cons (pe_lst pa_nil) pa_nil)))
      (pss_cons (ps_for PassesOwn.never rfl (pi_range1 rfl T.range (pa_cons (pe_callB call_len_seq (by rfl) T.len PySem.boot_len (pa_cons (pe_fld (pv 0) rfl) pa_nil)) pa_nil)) (pg_name (i := 3) scPs.nd rfl (Or.inl rfl))
        (pss_cons (ps_set (i := 4) scPs.nd rfl (Or.inl rfl) (pe_lst pa_nil))
        (pss_cons (ps_for PassesOwn.never rfl (pi_list (pv 2)) (pg_name (i := 5) scPs.nd rfl (Or.inr rfl))
          (pss_one (ps_expr (pe_bm PySem.F.plainAttrs_list PySem.F.slot_list_extend PySem.F.type_list_extend mt_extend (pv 4) (pa_cons
            (pe_lc (own := [("right", 6)]) (g := gName 6) (tt := tYes) rfl scPs.nd (pi_list (pe_meth (pv 0) T.cl MC.m GC hr MC.y .nil pass0 (pa_cons (pv 3) (pa_cons (pv 5) (pa_cons (pv 1) pa_nil)))))
              (blkOk_by (own := [("right", 6)]) (N := ["self", "differ", "begun", "left", "longer", "plan", "right"]) (sc := defScope sPlans) (by decide +kernel))
              (fun _ _ _ _ _ => pg_name (i := 6) scPs.nd rfl (Or.inl rfl))
              (fun _ _ _ _ _ => pts_nil)
              (fun _ _ _ _ _ => pe_op op_cat (pv 5) (pe_lst (pa_cons (pv 6) pa_nil)))) pa_nil)))))
        (pss_one (ps_set (i := 2) scPs.nd rfl (Or.inl rfl) (pv 4))))))
      (pss_one (ps_ret (pv 2)))), ?_⟩
    obtain ⟨dx, hp⟩ := B.obj
    refine ⟨Nat.zero_le _, fun e0 he0 => ⟨by show 1 ≤ sizeLine; decide, fun q0 hq0 => ?_⟩⟩
    have n0 : e0 ≠ q0 := fun e => by rw [← e, upd_same] at hq0; cases hq0
    have hq0' : H q0 = none := by rw [upd_ne n0.symm] at hq0; exact hq0
    have s0 : Same H (upd (upd H e0 (.lst [])) q0 (.lst [V.ref e0])) := (Same.new he0).trans (Same.new hq0)
    refine ⟨_, rfl, p, C, dx, _, _, rfl, s0 _ _ hp, T.cl, T.nL, bF_l _ _ _, la, _, rfl, .inl (SqL.of (s0 _ _ B.ls)), ?_⟩
    rw [nv_len]
    have nl5 := ob.nl
    refine ⟨_, rfl, (by omega), (by omega), ?_⟩
    refine for_range (lo := 0) (n := b.lefts.length) (fun i σ H2 => Same H H2 ∧ ∃ (q : Addr) (v3 v4 v5 v6 : Option V), σ = [some (.ref p), some (.int ((d : Nat) : Int)), some (.ref q), v3, v4, v5, v6] ∧ H q = none ∧ ListsAt H H2 q (begun (at_ b d) i)) ?_ ?_ ?_
    · refine ⟨s0, q0, none, none, none, none, rfl, hq0', ?_⟩
      rw [begun_zero]
      refine ⟨[e0], upd_same, rfl, fun t ht => ?_, fun i t l h1 h2 => ?_⟩
      · rw [List.mem_singleton] at ht
        rw [ht]
        exact ⟨he0, n0⟩
      · cases i with
        | zero =>
          cases h1
          cases h2
          rw [upd_ne n0, upd_same]
          rfl
        | succ i => simp at h1
    · rintro i σ H2 hi ⟨s2, q, v3, v4, v5, v6, rfl, nq, lq⟩
      have ei : (0 : Int) + ((i : Nat) : Int) = ((i : Nat) : Int) := Int.zero_add _
      rw [ei]
      refine ⟨Nat.zero_le _, fun L hL => ?_⟩
      obtain ⟨ts, hq, hlen, hnew, hat⟩ := lq
      have sL : Same H2 (upd H2 L (.lst [])) := Same.new hL
      refine ⟨_, rfl, q, rfl, ⟨_, SqL.of (sL _ _ hq)⟩, ?_⟩
      have whole : begun (at_ b d) (i + 1) = (begun (at_ b d) i).flatMap (longerBy (at_ b d) i) := begun_succ _ _
      have few : ((begun (at_ b d) i).flatMap (longerBy (at_ b d) i)).length ≤ 7776 := by
        rw [← whole]
        exact begun_few (b := at_ b d) ob.nl ob.nr hi
      refine for_list (K := K) (a := q) (xs := ts.map V.ref) (fun j σ H3 => Same H2 H3 ∧ (∃ v5 v6, σ = [some (.ref p), some (.int ((d : Nat) : Int)), some (.ref q), some (.int ((i : Nat) : Int)), some (.ref L), v5, v6]) ∧
          ListsAt H H3 L (((begun (at_ b d) i).take j).flatMap (longerBy (at_ b d) i))) ⟨sL, ⟨v5, v6, rfl⟩, ListsAt.nil upd_same⟩ (fun j σ H3 _ h => SqL.of (h.1 _ _ hq)) ?_ ?_
      · rintro j y σ H3 hj ⟨s3, ⟨v5, v6, rfl⟩, l3⟩
        obtain ⟨t, l, et, rfl, el, _⟩ := lists_item hlen hat hj
        have ht3 : H3 t = some (.lst (nv l)) := s3 _ _ (hat j t l et el)
        obtain ⟨us, hL3, ulen, unew, uat⟩ := l3
        refine ⟨_, rfl, .inl ⟨rfl, _, SqL.of hL3⟩, ?_⟩
        have s03 := s2.trans s3
        refine ⟨_, rfl, p, dx, _, rfl, s03 _ _ hp, bF_no _ _ _ (by decide +kernel) (by decide +kernel) (by decide +kernel), _, rfl, _, rfl, _, rfl, p, la, ra, t, b, i, d, l, rfl, B.same s03, hi, ob.nr, ht3, fun H4 c s4 nc hc => ?_⟩
        refine ⟨c, rfl, ⟨_, SqL.of hc⟩, fun D hD => ?_⟩
        have few2 : (chosen (at_ b d) i l).length ≤ 6 := by
          unfold chosen free
          rw [List.length_append]
          have h1 := List.length_filter_le (fun t => decide ((at_ b d).differ i t ≤ (at_ b d).limit)) ((List.range (at_ b d).none_).filter fun t => decide (t ∉ l))
          have h2 := List.length_filter_le (fun t => decide (t ∉ l)) (List.range (at_ b d).none_)
          rw [List.length_range] at h2
          have h3 : (at_ b d).none_ ≤ 5 := ob.nr
          show _ + 1 ≤ 6
          omega
        refine lc_list (K := K) (a := c) (xs := nv (chosen (at_ b d) i l)) (fun m H5 => Same H4 H5 ∧ ListsAt H4 H5 D (((chosen (at_ b d) i l).take m).map fun r => l ++ [r])) ⟨Same.new hD, ListsAt.nil upd_same⟩ (fun m H5 _ h => SqL.of (h.1 _ _ hc)) ?_ ?_
        · rintro m x H5 hm ⟨s5, ws, hD5, wlen, wnew, wat⟩
          obtain ⟨r, er, rfl⟩ := nv_item hm
          have ht5 := s5 _ _ (s4 _ _ ht3)
          refine ⟨rfl, ?_⟩
          refine ⟨_, rfl, _, rfl, (by show 1 ≤ sizeLine; decide), fun o1 ho1 => ?_⟩
          have nt1 : t ≠ o1 := ne_of_none ht5 ho1
          refine ⟨t, o1, _, _, rfl, rfl, (by rw [upd_ne nt1]; exact ht5), upd_same, ?_, fun u hu => ?_⟩
          · rw [nv_len]
            have h1 := (begun_mem (List.mem_of_getElem? el)).1
            refine Nat.le_of_lt (line6000 ?_)
            show l.length + 1 ≤ 10000
            omega
          · have s6 : Same H5 (upd (upd H5 o1 (.lst [V.int ((r : Nat) : Int)])) u (.lst (nv l ++ [V.int ((r : Nat) : Int)]))) := (Same.new ho1).trans (Same.new hu)
            have hu5 : H5 u = none := Same.free (Same.new ho1) hu
            have hu4 : H4 u = none := Same.free s5 hu5
            have nDu : u ≠ D := (ne_of_none hD5 hu5).symm
            refine ⟨_, s6 _ _ hD5, ?_, fun a o e => ?_, ?_⟩
            · rw [List.length_map, wlen, List.length_map, List.length_take]
              refine line6000 ?_
              omega
            · rw [upd_ne (ne_of_none e hD)]
              exact s6 _ _ (s5 a o e)
            · rw [List.take_add_one, er, List.map_append]
              refine lists_app (us := [u]) wlen rfl wnew (fun a ha => ?_) (fun n a x' h1 h2 => ?_) (fun n a x' h1 h2 => ?_) upd_same
              · rw [List.mem_singleton] at ha
                rw [ha]
                exact ⟨hu4, nDu⟩
              · rw [upd_ne (wnew a (List.mem_of_getElem? h1)).2]
                exact s6 _ _ (wat n a x' h1 h2)
              · cases n with
                | zero =>
                  cases h1
                  cases h2
                  rw [upd_ne nDu, upd_same, nv_snoc]
                | succ n => simp at h1
        · rintro H5 ⟨s5, ws, hD5, wlen, wnew, wat⟩
          rw [nv_len, List.take_length] at wlen wat
          have hL5 : H5 L = some (.lst (us.map V.ref)) := s5 _ _ (s4 _ _ hL3)
          have nLw : ∀ a ∈ ws, a ≠ L := fun a ha => (ne_of_none (s4 _ _ hL3) (wnew a ha).1).symm
          refine ⟨L, D, _, _, rfl, rfl, hL5, hD5, ?_, ?_⟩
          · rw [List.length_map, List.length_map, ulen, wlen]
            have h1 := take_flat_le (longerBy (at_ b d) i) (begun (at_ b d) i) (j + 1)
            rw [take_flat _ _ _ _ el, List.length_append] at h1
            have h2 : ((chosen (at_ b d) i l).map fun r => l ++ [r]).length = (longerBy (at_ b d) i l).length := rfl
            rw [h2]
            refine Nat.le_of_lt (line6000 ?_)
            omega
          · refine ⟨fun a o e => ?_, ⟨_, _, rfl⟩, ?_⟩
            · rw [upd_ne (ne_of_none e hL)]
              exact s5 _ _ (s4 _ _ (s3 a o e))
            · rw [take_flat _ _ _ _ el]
              refine lists_app ulen wlen unew (fun a ha => ⟨Same.free (s03.trans s4) (wnew a ha).1, nLw a ha⟩) (fun n a x' h1 h2 => ?_) (fun n a x' h1 h2 => ?_) upd_same
              · rw [upd_ne (unew a (List.mem_of_getElem? h1)).2]
                exact s5 _ _ (s4 _ _ (uat n a x' h1 h2))
              · rw [upd_ne (nLw a (List.mem_of_getElem? h1))]
                exact wat n a x' h1 h2
      · rintro σ H3 ⟨s3, ⟨v5, v6, rfl⟩, l3⟩
        rw [List.length_map, hlen, List.take_length, ← whole] at l3
        exact ⟨_, rfl, s2.trans s3, L, _, _, _, _, rfl, Same.free s2 hL, l3⟩
    · rintro σ H2 ⟨s2, q, v3, v4, v5, v6, rfl, nq, lq⟩
      refine ⟨_, rfl, k H2 q s2 nq ?_⟩
      have e : begun (at_ b d) b.lefts.length = (at_ b d).plans := begun_all (at_ b d)
      rw [← e]
      exact lq
end
end Gp
namespace Gp
open PySem PySem.Spec PyProof.Rows L2
open PySem.W (Codec)
/-! ### best, needs -/
theorem took {α : Type} (p : α → Bool) (l : List α) (i : Nat) (t : α) (h : l[i]? = some t) : (l.take (i + 1)).filter p = (l.take i).filter p ++ (if p t = true then [t] else []) := by
  rw [List.take_add_one, h, List.filter_append]
  show _ ++ List.filter p [t] = _
  rw [List.filter_cons]
  split <;> rfl
theorem plan_told {b : Si90.Box} (h : Ok b) {l : List Nat} (hl : l ∈ b.plans) : b.told l = true ∧ l.length ≤ 1000 := by
  have h1 := ((can_iff b l).mp ((mem_plans b l).mp hl)).1
  have h2 := ((told_iff b l).mp h1).1
  have h3 := h.nl
  exact ⟨h1, by omega⟩
theorem plans_few {b : Si90.Box} (h : Ok b) : b.plans.length ≤ 7776 := by
  rw [← begun_all]
  exact begun_few h.nl h.nr (Nat.le_refl _)
theorem ok_at {b : Si90.Box} (h : Ok b) (d : Nat) (hd : d ≤ 1000) : Ok (at_ b d) := ⟨h.nl, h.nr, h.sl, h.sr, hd⟩
def spBest (C : Addr) : Sp := fun vs H Q _ => ∃ (p la ra : Addr) (b : Si90.Box), vs = [.ref p] ∧ BoxAt C H p la ra b ∧ Ok b ∧
  ∀ (H' : Hp) (r : Addr), Same H H' → H r = none → H' r = some (.lst ((ansOf (Si90.step b .best).2).map V.int)) → Q (.ref r) H'
def spNeeds (C : Addr) : Sp := fun vs H Q _ => ∃ (p la ra : Addr) (b : Si90.Box) (n : Nat), vs = [.ref p, .int ((n : Nat) : Int)] ∧ BoxAt C H p la ra b ∧ Ok b ∧
  ∀ (H' : Hp) (r : Addr), Same H H' → H r = none → H' r = some (.lst ((ansOf (Si90.step b (.needs n)).2).map V.int)) → Q (.ref r) H'
section
variable {P : Program} {w : World} {K : PySem.W.Frag} {mg : Str → Option Value} {base : Heap} {C : Addr}
theorem scBe : FnScope ["self", "plans", "most", "fullest", "least", "as_good", "plan"] ["self"] (defScope sBest) := ⟨rfl, rfl, rfl, by decide +kernel, rfl, by decide +kernel, by decide +kernel⟩
theorem ok_best {f fP fG fC fS fN fO fL : Addr} {fd fdP fdG fdC fdS fdN fdO fdL : FuncData} (F : Fun K "best" "Box.best" sBest f fd) (T : Txt K mg C)
    (MP : M1 K C "paired" "Box.paired" sPaired ["self", "plan"] fP fdP) (MG : M1 K C "gap" "Box.gap" sGap ["self", "left", "right"] fG fdG) (MC : M1 K C "choices" "Box.choices" sChoices ["self", "left", "plan", "differ"] fC fdC)
    (MS : M1 K C "gaps" "Box.gaps" sGaps ["self", "plan"] fS fdS) (MN : M1 K C "pairs_of" "Box.pairs_of" sPairsOf ["self", "plan"] fN fdN) (MO : M1 K C "off" "Box.off" sOff ["self", "plan"] fO fdO)
    (ML : M1 K C "plans" "Box.plans" sPlans ["self", "differ"] fL fdL) : FnOk P w K mg base CX0 4 f fd ["self"] (spBest C) := by
  have GN : FnOk P w K mg base CX0 2 fN fdN ["self", "plan"] (spPairsOf K C) := ok_pairsOf MN.F T MP
  have GO : FnOk P w K mg base CX0 3 fO fdO ["self", "plan"] (spOff K C) := ok_off MO.F T MP MG MS
  have GL : FnOk P w K mg base CX0 3 fL fdL ["self", "differ"] (spPlans C) := ok_plans ML.F T MG MC
  refine F.ok scBe (fun vs H Q E h => ?_) (fun cdv A outer s H vs Q E hr h => ?_)
  · obtain ⟨p, la, ra, b, rfl, _⟩ := h
    rfl
  · obtain ⟨p, la, ra, b, rfl, B, ob, k⟩ := h
    have hr2 : Room 2 _ := hr.mono (by decide)
    refine ⟨_, pss_cons (ps_set (i := 1) scBe.nd rfl (Or.inl rfl) (pe_meth (pv 0) T.cl ML.m GL hr ML.y .nil pass0 (pa_cons (pe_fld (pv 0) rfl) pa_nil)))
      (pss_cons (ps_set (i := 2) scBe.nd rfl (Or.inr rfl) (pe_callB (cr_max rfl) (by rfl) T.max (by decide +kernel) (pa_cons (pe_lc (own := [("plan", 6)]) (g := gName 6) (tt := tYes) rfl scBe.nd (pi_list (pv 1))
        (blkOk_by (own := [("plan", 6)]) (N := ["self", "plans", "most", "fullest", "least", "as_good", "plan"]) (sc := defScope sBest) (by decide +kernel))
        (fun _ _ _ _ _ => pg_name (i := 6) scBe.nd rfl (Or.inl rfl)) (fun _ _ _ _ _ => pts_nil)
        (fun _ _ _ _ _ => pe_meth (pv 0) T.cl MN.m GN hr2 MN.y .nil pass0 (pa_cons (pv 6) pa_nil))) pa_nil)))
      (pss_cons (ps_setLc (i := 3) (own := [("plan", 6)]) (g := gName 6) rfl scBe.nd rfl rfl (sw_true rfl rfl rfl (by decide +kernel)) (pi_list (pv 1))
        (blkOk_by (own := [("plan", 6)]) (N := ["self", "plans", "most", "fullest", "least", "as_good", "plan"]) (sc := defScope sBest) (by decide +kernel))
        (fun _ _ _ _ _ => pg_name (i := 6) scBe.nd rfl (Or.inl rfl))
        (fun _ _ _ _ _ => pts_one (pt_cmpR op_eq (pe_meth (pv 0) T.cl MN.m GN hr2 MN.y .nil pass0 (pa_cons (pv 6) pa_nil)) (pv 2) (nomark _)))
        (fun _ _ _ _ _ => pv 6))
      (pss_cons (ps_set (i := 4) scBe.nd rfl (Or.inr rfl) (pe_callB (cr_min rfl) (by rfl) T.min (by decide +kernel) (pa_cons (pe_lc (own := [("plan", 6)]) (g := gName 6) (tt := tYes) rfl scBe.nd (pi_list (pv 3))
        (blkOk_by (own := [("plan", 6)]) (N := ["self", "plans", "most", "fullest", "least", "as_good", "plan"]) (sc := defScope sBest) (by decide +kernel))
        (fun _ _ _ _ _ => pg_name (i := 6) scBe.nd rfl (Or.inl rfl)) (fun _ _ _ _ _ => pts_nil)
        (fun _ _ _ _ _ => pe_meth (pv 0) T.cl MO.m GO hr MO.y .nil pass0 (pa_cons (pv 6) pa_nil))) pa_nil)))
      (pss_cons (ps_setLc (i := 5) (own := [("plan", 6)]) (g := gName 6) rfl scBe.nd rfl rfl (sw_true rfl rfl rfl (by decide +kernel)) (pi_list (pv 3))
        (blkOk_by (own := [("plan", 6)]) (N := ["self", "plans", "most", "fullest", "least", "as_good", "plan"]) (sc := defScope sBest) (by decide +kernel))
        (fun _ _ _ _ _ => pg_name (i := 6) scBe.nd rfl (Or.inl rfl))
        (fun _ _ _ _ _ => pts_one (pt_cmpR op_eq (pe_meth (pv 0) T.cl MO.m GO hr MO.y .nil pass0 (pa_cons (pv 6) pa_nil)) (pv 4) (nomark _)))
        (fun _ _ _ _ _ => pv 6))
      (pss_one (ps_ret (pe_op op_cat (pe_lst (pa_cons (pv 2) (pa_cons (pv 4) (pa_cons (pe_callB call_len_seq (by rfl) T.len PySem.boot_len (pa_cons (pv 5) pa_nil)) pa_nil)))) (pe_ix ix_list (pv 5) pe_int (fun _ _ => rfl))))))))), ?_⟩
    obtain ⟨dx, hp⟩ := B.obj
    obtain ⟨bx, hbx, gd⟩ := best_good b
    refine ⟨_, rfl, p, dx, _, rfl, hp, bF_no _ _ _ (by decide +kernel) (by decide +kernel) (by decide +kernel), _, rfl, p, C, dx, _, _, rfl, hp, T.cl, T.nD, bF_d _ _ _, p, la, ra, b, b.limit, rfl, B, ob, fun H1 q1 s1 nq1 lq => ?_⟩
    have lq : ListsAt H H1 q1 b.plans := lq
    obtain ⟨ts, hq1, hlen, hnew, hat⟩ := lq
    refine ⟨_, rfl, q1, rfl, ⟨_, SqL.of hq1⟩, fun D hD => ?_⟩
    refine lc_list (K := K) (a := q1) (xs := ts.map V.ref) (fun j H2 => Same H1 H2 ∧ H2 D = some (.lst (nv ((b.plans.take j).map b.pairs)))) ⟨Same.new hD, upd_same⟩ (fun j H2 _ h => SqL.of (h.1 _ _ hq1)) ?_ ?_
    · rintro j y H2 hj ⟨s2, h2⟩
      obtain ⟨t, l, et, rfl, el, ht1⟩ := lists_item hlen hat hj
      have s12 := s1.trans s2
      refine ⟨rfl, ?_⟩
      refine ⟨_, rfl, p, dx, _, rfl, s12 _ _ hp, bF_no _ _ _ (by decide +kernel) (by decide +kernel) (by decide +kernel), _, rfl, p, la, ra, t, b, l, rfl, B.same s12, SqL.of (s2 _ _ ht1), (plan_told ob (List.mem_of_getElem? el)).2, fun H3 s3 => ?_⟩
      refine ⟨_, s3 _ _ h2, ?_, fun a o e => ?_, ?_⟩
      · rw [nv_len, List.length_map, List.length_take]
        have := plans_few ob
        exact line6000 (by omega)
      · rw [upd_ne (ne_of_none e hD)]
        exact s3 _ _ (s2 a o e)
      · rw [upd_same, nv_snoc, List.take_add_one, el, List.map_append]
        rfl
    · rintro H2 ⟨s2, h2⟩
      rw [List.length_map, hlen, List.take_length] at h2
      refine ⟨D, _, rfl, SqL.nat h2, ?_, fun m hm hall => ?_⟩
      · rw [List.length_map, List.length_map]
        obtain ⟨l0, L0, e0⟩ := plans_some b
        rw [e0]
        exact Nat.succ_pos _
      · obtain ⟨m, hm2, rfl⟩ := List.mem_map.mp hm
        obtain rfl := good_most (m := m) gd hm2 fun k hk => by
          have := hall _ (List.mem_map.mpr ⟨k, hk, rfl⟩)
          omega
        have s02 := s1.trans s2
        refine ⟨_, rfl, q1, rfl, ⟨_, SqL.of (s2 _ _ hq1)⟩, fun D2 hD2 => ?_⟩
        refine lc_list (K := K) (a := q1) (xs := ts.map V.ref) (fun j H3 => Same H2 H3 ∧ ListsAt H H3 D2 ((b.plans.take j).filter fun l => b.pairs l == bx.pairs)) ⟨Same.new hD2, ListsAt.nil upd_same⟩ (fun j H3 _ h => SqL.of (h.1 _ _ (s2 _ _ hq1))) ?_ ?_
        · rintro j y H3 hj ⟨s3, us, hD3, ulen, unew, uat⟩
          obtain ⟨t, l, et, rfl, el, ht1⟩ := lists_item hlen hat hj
          have s03 := s02.trans s3
          have nt : t ≠ D2 := ne_of_none (s2 _ _ ht1) hD2
          refine ⟨rfl, ?_⟩
          refine ⟨_, rfl, p, dx, _, rfl, s03 _ _ hp, bF_no _ _ _ (by decide +kernel) (by decide +kernel) (by decide +kernel), _, rfl, p, la, ra, t, b, l, rfl, B.same s03, SqL.of (s3 _ _ (s2 _ _ ht1)), (plan_told ob (List.mem_of_getElem? el)).2, fun H4 s4 => ?_⟩
          refine ⟨_, rfl, rfl, _, rfl, ?_⟩
          by_cases c : b.pairs l = bx.pairs
          · refine if_yes (decide_eq_true (by rw [c])) ?_
            refine ⟨_, rfl, _, s4 _ _ hD3, ?_, fun a o e => ?_, ?_⟩
            · rw [List.length_map, ulen]
              have h1 := List.length_filter_le (fun l => b.pairs l == bx.pairs) (b.plans.take j)
              rw [List.length_take] at h1
              have := plans_few ob
              exact line6000 (by omega)
            · rw [upd_ne (ne_of_none e hD2)]
              exact s4 _ _ (s3 a o e)
            · rw [took _ _ _ _ el, if_pos (by rw [c]; exact beq_self_eq_true _)]
              refine lists_app (us := [t]) ulen rfl unew (fun a ha => ?_) (fun n a x' h1 h2 => ?_) (fun n a x' h1 h2 => ?_) upd_same
              · rw [List.mem_singleton] at ha
                rw [ha]
                exact ⟨(hnew t (List.mem_of_getElem? et)).1, nt⟩
              · rw [upd_ne (unew a (List.mem_of_getElem? h1)).2]
                exact s4 _ _ (uat n a x' h1 h2)
              · cases n with
                | zero =>
                  cases h1
                  cases h2
                  rw [upd_ne nt]
                  exact s4 _ _ (s3 _ _ (s2 _ _ ht1))
                | succ n => simp at h1
          · refine if_no (decide_eq_false fun e => c ?_) ⟨s3.trans s4, ?_⟩
            · injection e with e
              omega
            · rw [took _ _ _ _ el, if_neg (by rw [beq_iff_eq]; exact c), List.append_nil]
              exact ListsAt.same ⟨us, hD3, ulen, unew, uat⟩ s4
        · rintro H3 ⟨s3, l3⟩
          rw [List.length_map, hlen, List.take_length] at l3
          have l3 : ListsAt H H3 D2 (full b b.plans bx.pairs) := l3
          have fin : (full b b.plans bx.pairs).length ≤ 7776 := Nat.le_trans (List.length_filter_le _ _) (plans_few ob)
          have inP : ∀ l ∈ full b b.plans bx.pairs, l ∈ b.plans := fun l hl => (List.mem_filter.mp hl).1
          have s03 := s02.trans s3
          obtain ⟨us, hq3, ulen, unew, uat⟩ := l3
          refine ⟨_, rfl, D2, rfl, ⟨_, SqL.of hq3⟩, fun D3 hD3 => ?_⟩
          refine lc_list (K := K) (a := D2) (xs := us.map V.ref) (fun j H4 => Same H3 H4 ∧ H4 D3 = some (.lst (nv (((full b b.plans bx.pairs).take j).map b.off)))) ⟨Same.new hD3, upd_same⟩ (fun j H4 _ h => SqL.of (h.1 _ _ hq3)) ?_ ?_
          · rintro j y H4 hj ⟨s4, h4⟩
            obtain ⟨t, l, et, rfl, el, ht1⟩ := lists_item ulen uat hj
            have s04 := s03.trans s4
            obtain ⟨tl, ll⟩ := plan_told ob (inP l (List.mem_of_getElem? el))
            refine ⟨rfl, ?_⟩
            refine ⟨_, rfl, p, dx, _, rfl, s04 _ _ hp, bF_no _ _ _ (by decide +kernel) (by decide +kernel) (by decide +kernel), _, rfl, p, la, ra, t, b, l, rfl, B.same s04, SqL.of (s4 _ _ ht1), ll, tl, fun H5 s5 => ?_⟩
            refine ⟨_, s5 _ _ h4, ?_, fun a o e => ?_, ?_⟩
            · rw [nv_len, List.length_map, List.length_take]
              exact line6000 (by omega)
            · rw [upd_ne (ne_of_none e hD3)]
              exact s5 _ _ (s4 a o e)
            · rw [upd_same, nv_snoc, List.take_add_one, el, List.map_append]
              rfl
          · rintro H4 ⟨s4, h4⟩
            rw [List.length_map, ulen, List.take_length] at h4
            refine ⟨D3, _, rfl, SqL.nat h4, ?_, fun m hm hall => ?_⟩
            · rw [List.length_map, List.length_map]
              exact List.length_pos_iff.mpr (full_some gd)
            · obtain ⟨m, hm2, rfl⟩ := List.mem_map.mp hm
              obtain rfl := good_least (m := m) gd hm2 fun k hk => by
                have := hall _ (List.mem_map.mpr ⟨k, hk, rfl⟩)
                omega
              have s04 := s03.trans s4
              refine ⟨_, rfl, D2, rfl, ⟨_, SqL.of (s4 _ _ hq3)⟩, fun D4 hD4 => ?_⟩
              refine lc_list (K := K) (a := D2) (xs := us.map V.ref) (fun j H5 => Same H4 H5 ∧ ListsAt H H5 D4 (((full b b.plans bx.pairs).take j).filter fun l => b.off l == bx.off)) ⟨Same.new hD4, ListsAt.nil upd_same⟩ (fun j H5 _ h => SqL.of (h.1 _ _ (s4 _ _ hq3))) ?_ ?_
              · rintro j y H5 hj ⟨s5, ws, hD5, wlen, wnew, wat⟩
                obtain ⟨t, l, et, rfl, el, ht1⟩ := lists_item ulen uat hj
                have s05 := s04.trans s5
                have nt : t ≠ D4 := ne_of_none (s4 _ _ ht1) hD4
                obtain ⟨tl, ll⟩ := plan_told ob (inP l (List.mem_of_getElem? el))
                refine ⟨rfl, ?_⟩
                refine ⟨_, rfl, p, dx, _, rfl, s05 _ _ hp, bF_no _ _ _ (by decide +kernel) (by decide +kernel) (by decide +kernel), _, rfl, p, la, ra, t, b, l, rfl, B.same s05, SqL.of (s5 _ _ (s4 _ _ ht1)), ll, tl, fun H6 s6 => ?_⟩
                refine ⟨_, rfl, rfl, _, rfl, ?_⟩
                by_cases c : b.off l = bx.off
                · refine if_yes (decide_eq_true (by rw [c])) ?_
                  refine ⟨_, rfl, _, s6 _ _ hD5, ?_, fun a o e => ?_, ?_⟩
                  · rw [List.length_map, wlen]
                    have h1 := List.length_filter_le (fun l => b.off l == bx.off) ((full b b.plans bx.pairs).take j)
                    rw [List.length_take] at h1
                    exact line6000 (by omega)
                  · rw [upd_ne (ne_of_none e hD4)]
                    exact s6 _ _ (s5 a o e)
                  · rw [took _ _ _ _ el, if_pos (by rw [c]; exact beq_self_eq_true _)]
                    refine lists_app (us := [t]) wlen rfl wnew (fun a ha => ?_) (fun n a x' h1 h2 => ?_) (fun n a x' h1 h2 => ?_) upd_same
                    · rw [List.mem_singleton] at ha
                      rw [ha]
                      exact ⟨(unew t (List.mem_of_getElem? et)).1, nt⟩
                    · rw [upd_ne (wnew a (List.mem_of_getElem? h1)).2]
                      exact s6 _ _ (wat n a x' h1 h2)
                    · cases n with
                      | zero =>
                        cases h1
                        cases h2
                        rw [upd_ne nt]
                        exact s6 _ _ (s5 _ _ (s4 _ _ ht1))
                      | succ n => simp at h1
                · refine if_no (decide_eq_false fun e => c ?_) ⟨s5.trans s6, ?_⟩
                  · injection e with e
                    omega
                  · rw [took _ _ _ _ el, if_neg (by rw [beq_iff_eq]; exact c), List.append_nil]
                    exact ListsAt.same ⟨ws, hD5, wlen, wnew, wat⟩ s6
              · rintro H5 ⟨s5, l5⟩
                rw [List.length_map, ulen, List.take_length] at l5
                have l5 : ListsAt H H5 D4 (alike b b.plans bx.pairs bx.off) := l5
                obtain ⟨ws, hD5, wlen, wnew, wat⟩ := l5
                obtain ⟨a1, a2⟩ := alike_is gd
                have a2' := (List.getElem?_eq_some_iff.mp a2).1
                obtain ⟨t, et⟩ : ∃ t, ws[0]? = some t := ⟨_, List.getElem?_eq_getElem (by omega)⟩
                have ht := wat 0 t _ et a2
                refine ⟨_, rfl, _, rfl, _, rfl, D4, _, rfl, .inl (SqL.of hD5), (by show 3 ≤ sizeLine; decide), fun m hm => ?_⟩
                have s6 := Same.new (o := HO.lst [V.int ((bx.pairs : Nat) : Int), V.int ((bx.off : Nat) : Int), V.int (((ws.map V.ref).length : Nat) : Int)]) hm
                refine ⟨_, rfl, D4, _, 0, _, rfl, rfl, SqL.of (s6 _ _ hD5), at_of (j := 0) rfl (by rw [List.getElem?_map, et]; rfl), ?_⟩
                refine ⟨m, t, _, _, rfl, rfl, upd_same, s6 _ _ ht, ?_, fun r hr => ?_⟩
                · rw [nv_len]
                  have h1 := (plan_told ob (inP _ (List.mem_filter.mp (List.mem_of_getElem? a2)).1)).2
                  refine Nat.le_of_lt (line6000 ?_)
                  show 3 + bx.row.length ≤ 10000
                  omega
                · have s05 := s04.trans s5
                  refine k _ r ((s05.trans s6).trans (Same.new hr)) (Same.free (s05.trans s6) hr) ?_
                  rw [upd_same, step_best hbx, List.length_map, wlen, a1, nv_int]
                  rfl
end
end Gp
namespace Gp
open PySem PySem.Spec PyProof.Rows L2
open PySem.W (Codec)
section
variable {P : Program} {w : World} {K : PySem.W.Frag} {mg : Str → Option Value} {base : Heap} {C : Addr}
theorem scNe : FnScope ["self", "pairs", "plans", "enough", "plan"] ["self", "pairs"] (defScope sNeeds) := ⟨rfl, rfl, rfl, by decide +kernel, rfl, by decide +kernel, by decide +kernel⟩
theorem ok_needs {f fP fG fC fS fN fW fL : Addr} {fd fdP fdG fdC fdS fdN fdW fdL : FuncData} (F : Fun K "needs" "Box.needs" sNeeds f fd) (T : Txt K mg C)
    (MP : M1 K C "paired" "Box.paired" sPaired ["self", "plan"] fP fdP) (MG : M1 K C "gap" "Box.gap" sGap ["self", "left", "right"] fG fdG) (MC : M1 K C "choices" "Box.choices" sChoices ["self", "left", "plan", "differ"] fC fdC)
    (MS : M1 K C "gaps" "Box.gaps" sGaps ["self", "plan"] fS fdS) (MN : M1 K C "pairs_of" "Box.pairs_of" sPairsOf ["self", "plan"] fN fdN) (MW : M1 K C "widest" "Box.widest" sWidest ["self", "plan"] fW fdW)
    (ML : M1 K C "plans" "Box.plans" sPlans ["self", "differ"] fL fdL) : FnOk P w K mg base CX0 4 f fd ["self", "pairs"] (spNeeds C) := by
  have GN : FnOk P w K mg base CX0 2 fN fdN ["self", "plan"] (spPairsOf K C) := ok_pairsOf MN.F T MP
  have GW : FnOk P w K mg base CX0 3 fW fdW ["self", "plan"] (spWidest K C) := ok_widest MW.F T MP MG MS
  have GL : FnOk P w K mg base CX0 3 fL fdL ["self", "differ"] (spPlans C) := ok_plans ML.F T MG MC
  refine F.ok scNe (fun vs H Q E h => ?_) (fun cdv A outer s H vs Q E hr h => ?_)
  · obtain ⟨p, la, ra, b, n, rfl, _⟩ := h
    rfl
  · obtain ⟨p, la, ra, b, n, rfl, B, ob, k⟩ := h
    have hr2 : Room 2 _ := hr.mono (by decide)
    obtain ⟨t1, g1⟩ := T.gLarge
    refine ⟨_, pss_cons (ps_if (PW.pt (pw_or (pt_cmpR op_gt (pv 1) (pe_callB call_len_seq (by rfl) T.len PySem.boot_len (pa_cons (pe_fld (pv 0) rfl) pa_nil)) (nomark _)) (pw_or1 (pt_cmpR op_gt (pv 1) (pe_callB call_len_seq (by rfl) T.len PySem.boot_len (pa_cons (pe_fld (pv 0) rfl) pa_nil)) (nomark _)))))
        (pss_one (ps_ret (pe_lst (pa_cons (pe_un un_neg pe_int) pa_nil)))) pss_nil)
      (pss_cons (ps_set (i := 2) scNe.nd rfl (Or.inl rfl) (pe_meth (pv 0) T.cl ML.m GL hr ML.y .nil pass0 (pa_cons (pe_glob (v := .int 1000) rfl g1 ⟨_, rfl⟩) pa_nil)))
      (pss_cons (ps_setLc (i := 3) (own := [("plan", 4)]) (g := gName 4) rfl scNe.nd rfl rfl (sw_true rfl rfl rfl (by decide +kernel)) (pi_list (pv 2))
        (blkOk_by (own := [("plan", 4)]) (N := ["self", "pairs", "plans", "enough", "plan"]) (sc := defScope sNeeds) (by decide +kernel))
        (fun _ _ _ _ _ => pg_name (i := 4) scNe.nd rfl (Or.inl rfl))
        (fun _ _ _ _ _ => pts_one (pt_cmpR op_ge (pe_meth (pv 0) T.cl MN.m GN hr2 MN.y .nil pass0 (pa_cons (pv 4) pa_nil)) (pv 1) (nomark _)))
        (fun _ _ _ _ _ => pv 4))
      (pss_one (ps_ret (pe_lst (pa_cons (pe_callB (cr_min rfl) (by rfl) T.min (by decide +kernel) (pa_cons (pe_lc (own := [("plan", 4)]) (g := gName 4) (tt := tYes) rfl scNe.nd (pi_list (pv 3))
        (blkOk_by (own := [("plan", 4)]) (N := ["self", "pairs", "plans", "enough", "plan"]) (sc := defScope sNeeds) (by decide +kernel))
        (fun _ _ _ _ _ => pg_name (i := 4) scNe.nd rfl (Or.inl rfl)) (fun _ _ _ _ _ => pts_nil)
        (fun _ _ _ _ _ => pe_meth (pv 0) T.cl MW.m GW hr MW.y .nil pass0 (pa_cons (pv 4) pa_nil))) pa_nil)) pa_nil)))))), ?_⟩
    obtain ⟨dx, hp⟩ := B.obj
    have small : b.lefts.length < n ∨ b.rights.length < n → (∀ r, H r = none → Q (.ref r) (upd H r (.lst [V.int (-6)]))) := fun c r hr => by
      refine k _ r (Same.new hr) hr ?_
      rw [upd_same, step_needs_no ob c]
      rfl
    refine ⟨_, rfl, _, rfl, p, C, dx, _, _, rfl, hp, T.cl, T.nL, bF_l _ _ _, la, _, rfl, .inl (SqL.of B.ls), _, _, rfl, rfl, _, rfl, ?_⟩
    by_cases c1 : b.lefts.length < n
    · refine if_yes (decide_eq_true (by rw [nv_len]; omega)) ?_
      exact ⟨_, rfl, (by show 1 ≤ sizeLine; decide), small (.inl c1)⟩
    · refine if_no (decide_eq_false (by rw [nv_len]; omega)) ?_
      refine ⟨_, rfl, _, rfl, p, C, dx, _, _, rfl, hp, T.cl, T.nR, bF_r _ _ _, ra, _, rfl, .inl (SqL.of B.rs), _, _, rfl, rfl, _, rfl, ?_⟩
      by_cases c2 : b.rights.length < n
      · refine if_yes (decide_eq_true (by rw [nv_len]; omega)) ?_
        exact ⟨_, rfl, (by show 1 ≤ sizeLine; decide), small (.inr c2)⟩
      · refine if_no (decide_eq_false (by rw [nv_len]; omega)) ?_
        have ok2 : Ok (at_ b 1000) := ok_at ob 1000 (Nat.le_refl _)
        refine ⟨_, rfl, p, dx, _, rfl, hp, bF_no _ _ _ (by decide +kernel) (by decide +kernel) (by decide +kernel), p, la, ra, b, 1000, rfl, B, ob, fun H1 q1 s1 nq1 lq => ?_⟩
        obtain ⟨ts, hq1, hlen, hnew, hat⟩ := lq
        refine ⟨_, rfl, q1, rfl, ⟨_, SqL.of hq1⟩, fun D hD => ?_⟩
        refine lc_list (K := K) (a := q1) (xs := ts.map V.ref) (fun j H2 => Same H1 H2 ∧ ListsAt H H2 D (((at_ b 1000).plans.take j).filter fun l => decide (n ≤ b.pairs l))) ⟨Same.new hD, ListsAt.nil upd_same⟩ (fun j H2 _ h => SqL.of (h.1 _ _ hq1)) ?_ ?_
        · rintro j y H2 hj ⟨s2, us, hD2, ulen, unew, uat⟩
          obtain ⟨t, l, et, rfl, el, ht1⟩ := lists_item hlen hat hj
          have s02 := s1.trans s2
          have nt : t ≠ D := ne_of_none ht1 hD
          refine ⟨rfl, ?_⟩
          refine ⟨_, rfl, p, dx, _, rfl, s02 _ _ hp, bF_no _ _ _ (by decide +kernel) (by decide +kernel) (by decide +kernel), _, rfl, p, la, ra, t, b, l, rfl, B.same s02, SqL.of (s2 _ _ ht1), (plan_told ok2 (List.mem_of_getElem? el)).2, fun H3 s3 => ?_⟩
          refine ⟨_, rfl, _, _, rfl, rfl, _, rfl, ?_⟩
          by_cases c : n ≤ b.pairs l
          · refine if_yes (decide_eq_true (by omega)) ?_
            refine ⟨_, rfl, _, s3 _ _ hD2, ?_, fun a o e => ?_, ?_⟩
            · rw [List.length_map, ulen]
              have h1 := List.length_filter_le (fun l => decide (n ≤ b.pairs l)) ((at_ b 1000).plans.take j)
              rw [List.length_take] at h1
              have := plans_few ok2
              exact line6000 (by omega)
            · rw [upd_ne (ne_of_none e hD)]
              exact s3 _ _ (s2 a o e)
            · rw [took _ _ _ _ el, if_pos (decide_eq_true c)]
              refine lists_app (us := [t]) ulen rfl unew (fun a ha => ?_) (fun m a x' h1 h2 => ?_) (fun m a x' h1 h2 => ?_) upd_same
              · rw [List.mem_singleton] at ha
                rw [ha]
                exact ⟨(hnew t (List.mem_of_getElem? et)).1, nt⟩
              · rw [upd_ne (unew a (List.mem_of_getElem? h1)).2]
                exact s3 _ _ (uat m a x' h1 h2)
              · cases m with
                | zero =>
                  cases h1
                  cases h2
                  rw [upd_ne nt]
                  exact s3 _ _ (s2 _ _ ht1)
                | succ m => simp at h1
          · refine if_no (decide_eq_false (by omega)) ⟨s2.trans s3, ?_⟩
            rw [took _ _ _ _ el, if_neg (by rw [decide_eq_true_eq]; exact c), List.append_nil]
            exact ListsAt.same ⟨us, hD2, ulen, unew, uat⟩ s3
        · rintro H2 ⟨s2, l2⟩
          rw [List.length_map, hlen, List.take_length] at l2
          have l2 : ListsAt H H2 D (enough b (at_ b 1000).plans n) := l2
          have fin : (enough b (at_ b 1000).plans n).length ≤ 7776 := Nat.le_trans (List.length_filter_le _ _) (plans_few ok2)
          have inP : ∀ l ∈ enough b (at_ b 1000).plans n, l ∈ (at_ b 1000).plans := fun l hl => (List.mem_filter.mp hl).1
          have s02 := s1.trans s2
          obtain ⟨us, hq2, ulen, unew, uat⟩ := l2
          refine ⟨_, rfl, D, rfl, ⟨_, SqL.of hq2⟩, fun D2 hD2 => ?_⟩
          refine lc_list (K := K) (a := D) (xs := us.map V.ref) (fun j H3 => Same H2 H3 ∧ H3 D2 = some (.lst (nv (((enough b (at_ b 1000).plans n).take j).map b.worst)))) ⟨Same.new hD2, upd_same⟩ (fun j H3 _ h => SqL.of (h.1 _ _ hq2)) ?_ ?_
          · rintro j y H3 hj ⟨s3, h3⟩
            obtain ⟨t, l, et, rfl, el, ht1⟩ := lists_item ulen uat hj
            have s03 := s02.trans s3
            obtain ⟨tl, ll⟩ := plan_told ok2 (inP l (List.mem_of_getElem? el))
            refine ⟨rfl, ?_⟩
            refine ⟨_, rfl, p, dx, _, rfl, s03 _ _ hp, bF_no _ _ _ (by decide +kernel) (by decide +kernel) (by decide +kernel), _, rfl, p, la, ra, t, b, l, rfl, B.same s03, SqL.of (s3 _ _ ht1), ll, tl, fun H4 s4 => ?_⟩
            refine ⟨_, s4 _ _ h3, ?_, fun a o e => ?_, ?_⟩
            · rw [nv_len, List.length_map, List.length_take]
              exact line6000 (by omega)
            · rw [upd_ne (ne_of_none e hD2)]
              exact s4 _ _ (s3 a o e)
            · rw [upd_same, nv_snoc, List.take_add_one, el, List.map_append]
              rfl
          · rintro H3 ⟨s3, h3⟩
            rw [List.length_map, ulen, List.take_length] at h3
            refine ⟨D2, _, rfl, SqL.nat h3, ?_, fun m hm hall => ?_⟩
            · rw [List.length_map, List.length_map]
              exact List.length_pos_iff.mpr (enough_some ob (by omega) (by omega))
            · obtain ⟨m, hm2, rfl⟩ := List.mem_map.mp hm
              have hn := needs_least ob n m hm2 fun k hk => by
                have := hall _ (List.mem_map.mpr ⟨k, hk, rfl⟩)
                omega
              refine ⟨by show 1 ≤ sizeLine; decide, fun r hr => ?_⟩
              have s03 := s02.trans s3
              refine k _ r (s03.trans (Same.new hr)) (Same.free s03 hr) ?_
              rw [upd_same, step_needs_yes hn]
              rfl
end
end Gp
namespace Gp
open PySem PySem.Spec PyProof.Rows L2 LamX
open PySem.W (Codec)
/-! ### by_size -/
/-- the name that the lambda's code object bears -/
def tq : Str := (envOfC "by_size" (defScope sBySize) 0 0 .none).qual ++ "<lambda>"
def spBySize (PT : Addr) : Sp := fun vs H Q _ => ∃ (a : Addr) (l : List Nat), vs = [.ref a] ∧ H a = some (.lst (nv l)) ∧ l.length ≤ 5 ∧ TabS H PT tq ∧
  ∀ (H' : Hp) (D : Addr), Off PT H H' → TabS H' PT tq → H D = none → H' D = some (.lst (nv (Si90.sorted l))) → Q (.ref D) H'
section
variable {P : Program} {w : World} {K : PySem.W.Frag} {mg : Str → Option Value} {base : Heap} {C : Addr}
theorem scZ : FnScope ["side"] ["side"] (defScope sBySize) := ⟨rfl, rfl, rfl, by decide +kernel, rfl, by decide +kernel, by decide +kernel⟩
theorem lam_free : ∀ y ∈ [(("number" : Str), NameKind.local), (("side" : Str), NameKind.free)], y.2 = NameKind.free → (defScope sBySize).names.lookup y.1 = some .cell ∨ (defScope sBySize).names.lookup y.1 = some .free := by decide +kernel
theorem ok_bySize {f cZ PT : Addr} {kV doc pm ct oc : Value} {an od : Option Addr} {osl : Array (Option Value)} (lk : K.lookup f = some ⟨oc, od, .func (PySem.W.fnOf "by_size" "by_size" (defArgs sBySize) (defBody sBySize) (defScope sBySize) .none kV doc pm an (.ref cZ) ct), osl⟩)
    (hcd : PySem.W.codeIn K (.ref cZ) "by_size" = true) (T : Txt K mg C) (TB : TabB base mg cZ PT) :
    FnOk P w K mg base CX0 2 f (PySem.W.fnOf "by_size" "by_size" (defArgs sBySize) (defBody sBySize) (defScope sBySize) .none kV doc pm an (.ref cZ) ct) ["side"] (spBySize PT) := by
  refine fn_of lk hcd scZ (fun vs H Q E h => ?_) (fun A outer s H vs Q E hr h => ?_)
  · obtain ⟨a, l, rfl, _⟩ := h
    rfl
  · obtain ⟨a, l, rfl, ha, h5, ht, k⟩ := h
    refine ⟨_, PSs.nox (pss_one (ps_ret (pe_sortedLam (P := PT) (q := tq) (i := 0) rfl T.sorted (pa_cons (pe_callTy cr_range1 (by rfl) T.range (by decide +kernel) (pa_cons (pe_callB call_len_seq (by rfl) T.len PySem.boot_len (pa_cons (pv 0) pa_nil)) pa_nil)) pa_nil)
      rfl rfl (by exact ⟨rfl, rfl, rfl, by decide +kernel, rfl, rfl, lam_free⟩) TB rfl rfl hr rfl rfl (fun _ _ _ _ _ _ _ => rfl)))), ?_⟩
    refine ⟨_, rfl, a, _, rfl, .inl (SqL.of ha), _, rfl, fun r hr => ?_⟩
    have s1 : Same H (upd H r (.rng 0 (((nv l).length : Nat) : Int))) := Same.new hr
    refine ⟨r, a, l, rfl, (by rw [upd_same, nv_len]), rfl, SqL.of (s1 _ _ ha), by omega, ht.ext s1, fun H2 D out off t2 nD hp hpw => ?_⟩
    have keep : ∀ b o, H2 b = some o → upd H2 D (.lst (nv out)) b = some o := fun b o e => by
      rw [upd_ne (ne_of_none e nD)]
      exact e
    refine k _ D (fun b o n e => keep b o (off b o n (s1 b o e))) (t2.ext keep) (Same.free s1 (off.none t2 nD)) ?_
    rw [upd_same, sorted_one hp hpw]
/-! ### from the smallest on -/
theorem BoxAt.off {H H' : Hp} {p la ra PT : Addr} {b : Si90.Box} (B : BoxAt C H p la ra b) (t : TabS H PT tq) (e : Off PT H H') : BoxAt C H' p la ra b := by
  obtain ⟨ps, hP, _⟩ := t
  obtain ⟨dx, h⟩ := B.obj
  exact ⟨⟨dx, e _ _ (ne_of h hP fun z => by cases z) h⟩, e _ _ (ne_of B.ls hP fun z => by cases z) B.ls, e _ _ (ne_of B.rs hP fun z => by cases z) B.rs, B.ne⟩
theorem nv_set (l : List Nat) (i k : Nat) : (nv l).set i (V.int ((k : Nat) : Int)) = nv (l.set i k) := by
  unfold nv
  rw [List.map_set]
theorem ix_nat {n j : Nat} (hj : j < n) : ixN n (j : Int) = some j := by
  unfold ixN
  rw [if_pos (by omega), if_pos (by omega), Int.toNat_natCast]
def muS (n : Nat) (σ : List (Option V)) (_ : Hp) : Nat := match σ[4]?, σ[5]? with
  | some (some (V.int i)), some (some (V.int j)) => n - (i.toNat + j.toNat)
  | _, _ => 0
def spSmallest (C PT : Addr) : Sp := fun vs H Q _ => ∃ (p la ra : Addr) (b : Si90.Box), vs = [.ref p] ∧ BoxAt C H p la ra b ∧ Ok b ∧ TabS H PT tq ∧
  ∀ (H' : Hp) (q : Addr), Off PT H H' → TabS H' PT tq → H q = none → H' q = some (.lst (nv b.plain)) → Q (.ref q) H'
theorem scSm : FnScope ["self", "lefts", "rights", "plan", "at_left", "at_right", "left", "right"] ["self"] (defScope sSmallest) := ⟨rfl, rfl, rfl, by decide +kernel, rfl, by decide +kernel, by decide +kernel⟩
theorem ok_smallest {f fG fZ PT : Addr} {fd fdG fdZ : FuncData} (F : Fun K "from_the_smallest_on" "Box.from_the_smallest_on" sSmallest f fd) (T : Txt K mg C) (MG : M1 K C "gap" "Box.gap" sGap ["self", "left", "right"] fG fdG)
    (GZ : FnOk P w K mg base CX0 2 fZ fdZ ["side"] (spBySize PT)) (kZ : PySem.W.keepIn K (.ref fZ) = true) (yZ : Binds K fdZ ["side"] []) (gZ : mg "by_size" = some (.ref fZ)) : FnOk P w K mg base CX0 3 f fd ["self"] (spSmallest C PT) := by
  have GG : FnOk P w K mg base CX0 1 fG fdG ["self", "left", "right"] (spGap C) := ok_gap MG.F T
  refine F.ok scSm (fun vs H Q E h => ?_) (fun cdv A outer s H vs Q E hr h => ?_)
  · obtain ⟨p, la, ra, b, rfl, _⟩ := h
    rfl
  · obtain ⟨p, la, ra, b, rfl, B, ob, ht, k⟩ := h
    have hr1 : Room 1 _ := hr.mono (by decide)
    refine ⟨_, pss_cons (ps_set (i := 1) scSm.nd rfl (Or.inl rfl) (pe_call GZ hr rfl gZ kZ yZ .nil pass0 (pa_cons (pe_fld (pv 0) rfl) pa_nil)))
      (pss_cons (ps_set (i := 2) scSm.nd rfl (Or.inl rfl) (pe_call GZ hr rfl gZ kZ yZ .nil pass0 (pa_cons (pe_fld (pv 0) rfl) pa_nil)))
      (pss_cons (ps_set (i := 3) scSm.nd rfl (Or.inl rfl) (pe_op op_rep (pe_lst (pa_cons (pe_callB call_len_seq (by rfl) T.len PySem.boot_len (pa_cons (pv 2) pa_nil)) pa_nil)) (pe_callB call_len_seq (by rfl) T.len PySem.boot_len (pa_cons (pv 1) pa_nil))))
      (pss_cons (ps_set (i := 4) scSm.nd rfl (Or.inl rfl) pe_int)
      (pss_cons (ps_set (i := 5) scSm.nd rfl (Or.inl rfl) pe_int)
      (pss_cons (ps_while PassesOwn.never (PW.pt (pw_and (pt_cmpR op_lt (pv 4) (pe_callB call_len_seq (by rfl) T.len PySem.boot_len (pa_cons (pv 1) pa_nil)) (nomark _)) (pw_and1 (pt_cmpR op_lt (pv 5) (pe_callB call_len_seq (by rfl) T.len PySem.boot_len (pa_cons (pv 2) pa_nil)) (nomark _)))))
        (pss_cons (ps_set (i := 6) scSm.nd rfl (Or.inl rfl) (pe_ix ix_list (pv 1) (pv 4) (fun _ _ => rfl)))
        (pss_cons (ps_set (i := 7) scSm.nd rfl (Or.inl rfl) (pe_ix ix_list (pv 2) (pv 5) (fun _ _ => rfl)))
        (pss_one (ps_if (pt_cmpR op_le (pe_meth (pv 0) T.cl MG.m GG hr1 MG.y .nil pass0 (pa_cons (pv 6) (pa_cons (pv 7) pa_nil))) (pe_fld (pv 0) rfl) (nomark _))
          (pss_cons (ps_asg (pv 7) (pg_sub (pv 3) (pv 6) set_list))
          (pss_cons (ps_aug (i := 4) scSm.nd rfl (Or.inl rfl) pe_int ip_add)
          (pss_one (ps_aug (i := 5) scSm.nd rfl (Or.inl rfl) pe_int ip_add))))
          (pss_one (ps_if (pt_cmpR op_lt (pe_ix ix_list (pe_fld (pv 0) rfl) (pv 6) (fun _ _ => rfl)) (pe_ix ix_list (pe_fld (pv 0) rfl) (pv 7) (fun _ _ => rfl)) (nomark _))
            (pss_one (ps_aug (i := 4) scSm.nd rfl (Or.inl rfl) pe_int ip_add))
            (pss_one (ps_aug (i := 5) scSm.nd rfl (Or.inl rfl) pe_int ip_add)))))))))
      (pss_one (ps_ret (pv 3)))))))), ?_⟩
    obtain ⟨dx, hp⟩ := B.obj
    have nl5 := ob.nl
    have nr5 := ob.nr
    refine ⟨_, rfl, p, C, dx, _, _, rfl, hp, T.cl, T.nL, bF_l _ _ _, la, b.lefts, rfl, B.ls, ob.nl, ht, fun H1 D1 o1 t1 n1 h1 => ?_⟩
    have B1 := B.off ht o1
    obtain ⟨dx1, hp1⟩ := B1.obj
    refine ⟨_, rfl, p, C, dx1, _, _, rfl, hp1, T.cl, T.nR, bF_r _ _ _, ra, b.rights, rfl, B1.rs, ob.nr, t1, fun H2 D2 o2 t2 n2 h2 => ?_⟩
    have B2 := B1.off t1 o2
    have h12 : H2 D1 = some (.lst (nv (Si90.sorted b.lefts))) := by
      obtain ⟨ps, hP, _⟩ := t1
      exact o2 _ _ (ne_of h1 hP fun z => by cases z) h1
    have eL : (nv (Si90.sorted b.lefts)).length = b.lefts.length := by rw [nv_len, sorted_len]
    have eR : (nv (Si90.sorted b.rights)).length = b.rights.length := by rw [nv_len, sorted_len]
    refine ⟨_, rfl, D2, _, rfl, .inl (SqL.of h2), (by show 1 ≤ sizeLine; decide), fun m hm => ?_⟩
    have sm := Same.new (o := HO.lst [V.int (((nv (Si90.sorted b.rights)).length : Nat) : Int)]) hm
    refine ⟨_, rfl, D1, _, rfl, .inl (SqL.of (sm _ _ h12)), m, _, _, rfl, rfl, upd_same, (by omega), (by omega), ?_, fun L hL => ?_⟩
    · rw [eL, Int.toNat_natCast]
      refine Nat.le_of_lt (line6000 ?_)
      show 1 * b.lefts.length ≤ 10000
      omega
    · have s3 : Same H2 (upd (upd H2 m (.lst [V.int (((nv (Si90.sorted b.rights)).length : Nat) : Int)])) L (.lst (List.replicate ((((nv (Si90.sorted b.lefts)).length : Nat) : Int)).toNat [V.int (((nv (Si90.sorted b.rights)).length : Nat) : Int)]).flatten)) := sm.trans (Same.new hL)
      have nL2 : H2 L = none := Same.free sm hL
      have off2 : Off PT H H2 := o1.trans o2
      have nL0 : H L = none := off2.none t2 nL2
      refine while_by (fun σ H' => ∃ (i j : Nat) (ps : List (Nat × Nat)) (v6 v7 : Option V), σ = [some (.ref p), some (.ref D1), some (.ref D2), some (.ref L), some (.int ((i : Nat) : Int)), some (.int ((j : Nat) : Int)), v6, v7] ∧
          Same H2 H' ∧ H' L = some (.lst (nv (putAll b.none_ b.lefts.length ps))) ∧ i ≤ b.lefts.length ∧ j ≤ b.rights.length ∧ (∀ x ∈ ps, x.1 ∈ (Si90.sorted b.lefts).take i) ∧
          ps ++ meets b ((Si90.sorted b.lefts).drop i) ((Si90.sorted b.rights).drop j) = meets b (Si90.sorted b.lefts) (Si90.sorted b.rights)) (muS (b.lefts.length + b.rights.length)) ?_ ?_ ?_
      · refine ⟨0, 0, [], none, none, rfl, s3, ?_, Nat.zero_le _, Nat.zero_le _, by simp, rfl⟩
        rw [upd_same, putAll_nil, eL, eR, Int.toNat_natCast]
        congr 2
        unfold nv
        rw [List.map_replicate]
        unfold Si90.Box.none_
        generalize b.lefts.length = n
        induction n with
        | zero => rfl
        | succ n ih =>
          rw [List.replicate_succ, List.flatten_cons, ih, List.replicate_succ]
          rfl
      · rintro σ H' ⟨i, j, ps, v6, v7, rfl, s', hL', hi, hj, hps, hm2⟩
        have hD1 := s' _ _ h12
        have hD2 := s' _ _ h2
        have B' := B2.same s'
        obtain ⟨dx', hp'⟩ := B'.obj
        have stop : i = b.lefts.length ∨ j = b.rights.length → putAll b.none_ b.lefts.length ps = b.plain := fun c => by
          rw [plain_is]
          have : meets b ((Si90.sorted b.lefts).drop i) ((Si90.sorted b.rights).drop j) = [] := by
            rcases c with c | c
            · rw [List.drop_eq_nil_of_le (by rw [sorted_len]; omega), meets_nil_left]
            · rw [List.drop_eq_nil_of_le (as := Si90.sorted b.rights) (by rw [sorted_len]; omega), meets_nil_right]
          rw [this, List.append_nil] at hm2
          rw [hm2]
        have fin : i = b.lefts.length ∨ j = b.rights.length → Q (.ref L) H' := fun c => by
          refine k H' L (off2.trans (Off.of s')) (t2.ext s') nL0 ?_
          rw [hL', stop c]
        refine ⟨_, rfl, _, rfl, D1, _, rfl, .inl (SqL.of hD1), _, _, rfl, rfl, _, rfl, ?_⟩
        by_cases c1 : i < b.lefts.length
        · refine if_yes (decide_eq_true (by omega)) ?_
          refine ⟨_, rfl, _, rfl, D2, _, rfl, .inl (SqL.of hD2), _, _, rfl, rfl, _, rfl, ?_⟩
          by_cases c2 : j < b.rights.length
          · refine if_yes (decide_eq_true (by omega)) ?_
            have l1 : i < (Si90.sorted b.lefts).length := by rw [sorted_len]; exact c1
            have l2 : j < (Si90.sorted b.rights).length := by rw [sorted_len]; exact c2
            obtain ⟨x, ex⟩ : ∃ x, (Si90.sorted b.lefts)[i]? = some x := ⟨_, List.getElem?_eq_getElem l1⟩
            obtain ⟨y, ey⟩ : ∃ y, (Si90.sorted b.rights)[j]? = some y := ⟨_, List.getElem?_eq_getElem l2⟩
            have hx : x < b.lefts.length := sorted_mem (List.mem_of_getElem? ex)
            have hy : y < b.rights.length := sorted_mem (List.mem_of_getElem? ey)
            rw [drop_at ex, drop_at ey, meets_cons] at hm2
            refine ⟨_, rfl, _, rfl, D1, _, _, _, rfl, rfl, SqL.of hD1, atI_nat (nv_at ex), ?_⟩
            refine ⟨_, rfl, _, rfl, D2, _, _, _, rfl, rfl, SqL.of hD2, atI_nat (nv_at ey), ?_⟩
            refine ⟨_, rfl, p, dx', _, rfl, hp', bF_no _ _ _ (by decide +kernel) (by decide +kernel) (by decide +kernel), _, rfl, _, rfl, p, la, ra, b, x, y, rfl, B', hx, hy, ?_⟩
            refine ⟨_, rfl, p, C, dx', _, _, rfl, hp', T.cl, T.nD, bF_d _ _ _, _, _, rfl, rfl, _, rfl, ?_⟩
            have in1 : ∀ z ∈ ps, z.1 ∈ (Si90.sorted b.lefts).take (i + 1) := fun z hz => by
              rw [List.take_add_one]
              exact List.mem_append_left _ (hps z hz)
            by_cases c3 : b.differ x y ≤ b.limit
            · refine if_yes (decide_eq_true (by omega)) ?_
              rw [if_pos c3] at hm2
              have new : ∀ z ∈ ps, z.1 ≠ x := fun z hz e => by
                have h1 := hps z hz
                rw [e] at h1
                have h2 := (sorted_nodup b.lefts).sublist (List.Sublist.refl _)
                rw [← List.take_append_drop i (Si90.sorted b.lefts), List.nodup_append] at h2
                refine h2.2.2 x h1 x ?_ rfl
                rw [drop_at ex]
                exact List.mem_cons_self
              refine ⟨_, rfl, _, rfl, _, rfl, L, _, _, x, rfl, rfl, hL', ix_nat (by rw [nv_len, putAll_len]; exact hx), ?_⟩
              refine ⟨_, rfl, _, _, rfl, rfl, ?_⟩
              refine ⟨_, rfl, _, _, rfl, rfl, ⟨i + 1, j + 1, ps ++ [(x, y)], _, _, rfl, fun a o e => ?_, ?_, c1, c2, fun z hz => ?_, ?_⟩, ?_⟩
              · rw [upd_ne (ne_of_none e nL2)]
                exact s' a o e
              · rw [upd_same, nv_set, putAll_snoc _ _ _ _ _ new hx]
              · rcases List.mem_append.mp hz with hz | hz
                · exact in1 z hz
                · rw [List.mem_singleton] at hz
                  rw [hz, List.take_add_one, ex]
                  exact List.mem_append_right _ (List.mem_singleton.mpr rfl)
              · rw [List.append_assoc]
                exact hm2
              · show b.lefts.length + b.rights.length - ((((i : Nat) : Int) + 1).toNat + (((j : Nat) : Int) + 1).toNat) < b.lefts.length + b.rights.length - (((i : Nat) : Int).toNat + ((j : Nat) : Int).toNat)
                omega
            · refine if_no (decide_eq_false (by omega)) ?_
              rw [if_neg c3] at hm2
              refine ⟨_, rfl, p, C, dx', _, _, rfl, hp', T.cl, T.nL, bF_l _ _ _, _, rfl, la, _, _, _, rfl, rfl, SqL.of B'.ls, atI_nat (nv_getD hx), ?_⟩
              refine ⟨_, rfl, p, C, dx', _, _, rfl, hp', T.cl, T.nR, bF_r _ _ _, _, rfl, ra, _, _, _, rfl, rfl, SqL.of B'.rs, atI_nat (nv_getD hy), ?_⟩
              refine ⟨_, _, rfl, rfl, _, rfl, ?_⟩
              by_cases c4 : b.left x < b.right_ y
              · have c4' : b.lefts.getD x 0 < b.rights.getD y 0 := c4
                refine if_yes (decide_eq_true (by omega)) ?_
                rw [if_pos c4] at hm2
                refine ⟨_, rfl, _, _, rfl, rfl, ⟨i + 1, j, ps, _, _, rfl, s', hL', c1, hj, in1, ?_⟩, ?_⟩
                · rw [drop_at ey]
                  exact hm2
                · show b.lefts.length + b.rights.length - ((((i : Nat) : Int) + 1).toNat + ((j : Nat) : Int).toNat) < b.lefts.length + b.rights.length - (((i : Nat) : Int).toNat + ((j : Nat) : Int).toNat)
                  omega
              · have c4' : ¬ b.lefts.getD x 0 < b.rights.getD y 0 := c4
                refine if_no (decide_eq_false (by omega)) ?_
                rw [if_neg c4] at hm2
                refine ⟨_, rfl, _, _, rfl, rfl, ⟨i, j + 1, ps, _, _, rfl, s', hL', hi, c2, hps, ?_⟩, ?_⟩
                · rw [drop_at ex]
                  exact hm2
                · show b.lefts.length + b.rights.length - (((i : Nat) : Int).toNat + (((j : Nat) : Int) + 1).toNat) < b.lefts.length + b.rights.length - (((i : Nat) : Int).toNat + ((j : Nat) : Int).toNat)
                  omega
          · refine if_no (decide_eq_false (by omega)) ?_
            exact ⟨_, rfl, fin (.inr (by omega))⟩
        · refine if_no (decide_eq_false (by omega)) ?_
          exact ⟨_, rfl, fin (.inl (by omega))⟩
      · rintro σ H' Q1 Q2 hQ ⟨v, h1, v0, h2, a1, ys, e, hs, i, j, e1, e2, c, e3, q⟩
        refine ⟨v, h1, v0, h2, a1, ys, e, hs, i, j, e1, e2, c, e3, ?_⟩
        cases c with
        | true =>
          have q := q
          rw [if_pos rfl] at q
          refine if_yes rfl ?_
          obtain ⟨v, h1, v0, h2, a1, ys, e, hs, i, j, e1, e2, c, e3, q⟩ := q
          exact ⟨v, h1, v0, h2, a1, ys, e, hs, i, j, e1, e2, c, e3, hQ _ _ q⟩
        | false =>
          rw [if_neg Bool.false_ne_true] at q
          exact if_no rfl (hQ _ _ q)
end
end Gp
namespace Gp
open PySem PySem.Spec PyProof.Rows L2 LamX
open PySem.W (Codec)
/-! ### plain -/
theorem plain_told (b : Si90.Box) : b.told b.plain = true := by
  rw [told_iff, plain_is]
  refine ⟨putAll_len _ _ _, fun k hk => ?_⟩
  unfold putAll at hk
  obtain ⟨i, _, rfl⟩ := List.mem_map.mp hk
  cases e : (meets b (Si90.sorted b.lefts) (Si90.sorted b.rights)).find? (fun x => x.1 == i) with
  | none => exact Nat.le_refl _
  | some x =>
    have h1 := (meets_mem b _ _ _ (Nat.le_refl _) x (List.mem_of_find?_eq_some e)).2
    exact Nat.le_of_lt (sorted_mem h1)
/-- as Done, where the table of by_size may have grown -/
def DoneT (PT C : Addr) (H : Hp) (p la ra : Addr) (b' : Si90.Box) (ans : List Int) (Q : VK) : Prop :=
  ∀ (H' : Hp) (r la' ra' : Addr), H r = none → H' r = some (.lst (ans.map V.int)) → BoxAt C H' p la' ra' b' → (la' = la ∨ H la' = none) → (ra' = ra ∨ H ra' = none) →
    (∀ q o, q ≠ PT → H q = some o → q ≠ p → q ≠ la → q ≠ ra → H' q = some o) → TabS H' PT tq → Q (.ref r) H'
theorem DoneT.old {PT C : Addr} {H : Hp} {p la ra : Addr} {b b' : Si90.Box} {ans : List Int} {Q : VK} (k : DoneT PT C H p la ra b' ans Q) (B : BoxAt C H p la ra b) (t : TabS H PT tq) : Done C H p la ra b' ans Q := by
  intro H' r la' ra' h1 h2 h3 h4 h5 h6
  refine k H' r la' ra' h1 h2 h3 h4 h5 (fun q o _ => h6 q o) (Gp.TabS.part t fun q o e nl ni => h6 q o e ?_ ?_ ?_)
  · intro z
    obtain ⟨dx, hp⟩ := B.obj
    rw [z, hp] at e
    exact ni _ _ _ (Option.some.inj e).symm
  · intro z
    rw [z, B.ls] at e
    exact nl _ (Option.some.inj e).symm
  · intro z
    rw [z, B.rs] at e
    exact nl _ (Option.some.inj e).symm
def spPlain (C PT : Addr) : Sp := fun vs H Q _ => ∃ (p la ra : Addr) (b : Si90.Box), vs = [.ref p] ∧ BoxAt C H p la ra b ∧ Ok b ∧ TabS H PT tq ∧
  ∀ (H' : Hp) (r : Addr), Off PT H H' → TabS H' PT tq → H r = none → H' r = some (.lst ((ansOf (Si90.step b .plain).2).map V.int)) → Q (.ref r) H'
section
variable {P : Program} {w : World} {K : PySem.W.Frag} {mg : Str → Option Value} {base : Heap} {C : Addr}
theorem scPn : FnScope ["self", "plan"] ["self"] (defScope sPlain) := ⟨rfl, rfl, rfl, by decide +kernel, rfl, by decide +kernel, by decide +kernel⟩
theorem ok_plain {f fP fG fS fN fO fM fT PT : Addr} {fd fdP fdG fdS fdN fdO fdM fdT : FuncData} (F : Fun K "plain" "Box.plain" sPlain f fd) (T : Txt K mg C)
    (MP : M1 K C "paired" "Box.paired" sPaired ["self", "plan"] fP fdP) (MG : M1 K C "gap" "Box.gap" sGap ["self", "left", "right"] fG fdG)
    (MS : M1 K C "gaps" "Box.gaps" sGaps ["self", "plan"] fS fdS) (MN : M1 K C "pairs_of" "Box.pairs_of" sPairsOf ["self", "plan"] fN fdN) (MO : M1 K C "off" "Box.off" sOff ["self", "plan"] fO fdO)
    (MM : M1 K C "measured" "Box.measured" sMeasured ["self", "plan"] fM fdM) (GT : FnOk P w K mg base CX0 3 fT fdT ["self"] (spSmallest C PT)) (yT : Binds K fdT ["self"] []) (mT : Meth K C "from_the_smallest_on" fT) :
    FnOk P w K mg base CX0 5 f fd ["self"] (spPlain C PT) := by
  have GM : FnOk P w K mg base CX0 4 fM fdM ["self", "plan"] (spMeasured K C) := ok_measured MM.F T MP MG MS MN MO
  refine F.ok scPn (fun vs H Q E h => ?_) (fun cdv A outer s H vs Q E hr h => ?_)
  · obtain ⟨p, la, ra, b, rfl, _⟩ := h
    rfl
  · obtain ⟨p, la, ra, b, rfl, B, ob, ht, k⟩ := h
    have hr3 : Room 3 _ := hr.mono (by decide)
    refine ⟨_, pss_cons (ps_set (i := 1) scPn.nd rfl (Or.inl rfl) (pe_meth0 (pv 0) T.cl mT GT hr3 yT .nil pass0))
      (pss_one (ps_ret (pe_op op_cat (pe_meth (pv 0) T.cl MM.m GM hr MM.y .nil pass0 (pa_cons (pv 1) pa_nil)) (pv 1)))), ?_⟩
    obtain ⟨dx, hp⟩ := B.obj
    have nl5 := ob.nl
    have pl : b.plain.length = b.lefts.length := ((told_iff _ _).mp (plain_told b)).1
    refine ⟨_, rfl, p, dx, _, rfl, hp, bF_no _ _ _ (by decide +kernel) (by decide +kernel) (by decide +kernel), p, la, ra, b, rfl, B, ob, ht, fun H1 q o1 t1 n1 h1 => ?_⟩
    have B1 := B.off ht o1
    obtain ⟨dx1, hp1⟩ := B1.obj
    refine ⟨_, rfl, p, dx1, _, rfl, hp1, bF_no _ _ _ (by decide +kernel) (by decide +kernel) (by decide +kernel), _, rfl, p, la, ra, q, b, b.plain, rfl, B1, SqL.of h1, by omega, plain_told b, fun H2 m s2 nm hm => ?_⟩
    refine ⟨_, rfl, m, q, _, _, rfl, rfl, hm, s2 _ _ h1, ?_, fun r hr => ?_⟩
    · rw [nv_len, nv_len, pl]
      refine Nat.le_of_lt (line6000 ?_)
      show 2 + b.lefts.length ≤ 10000
      omega
    · have s3 := s2.trans (Same.new (o := HO.lst (nv [b.pairs b.plain, b.off b.plain] ++ nv b.plain)) hr)
      refine k _ r (o1.trans (Off.of s3)) (t1.ext s3) (o1.none t1 (Same.free s2 hr)) ?_
      rw [upd_same, ← nv_app, nv_int]
      rfl
end
end Gp
namespace Gp
open PySem PySem.Spec PyProof.Rows L2 LamX
open PySem.W (Codec)
/-! ### the line of calls -/
/-- one call: the number, what it has -/
def spOne (K : PySem.W.Frag) (C PT : Addr) : Sp := fun vs H Q _ => ∃ (p la ra g : Addr) (b : Si90.Box) (k : Int) (as : List Int) (c : Si90.Call), vs = [.ref p, .int k, .ref g] ∧ BoxAt C H p la ra b ∧ Ok b ∧ SqL K H g (as.map V.int) ∧
  Form (k :: as) c ∧ TabS H PT tq ∧ DoneT PT C H p la ra (Si90.step b c).1 (ansOf (Si90.step b c).2) Q
def spAns (K : PySem.W.Frag) (PT : Addr) : Sp := fun vs H Q _ => ∃ (a : Addr) (ns : List Int), vs = [.ref a] ∧ SqL K H a (ns.map V.int) ∧ TabS H PT tq ∧ PySi90.answers_asked ns = true ∧
  ∀ (H' : Hp) (r : Addr), H' r = some (.lst ((PySi90.answers ns).map V.int)) → Q (.ref r) H'
/-- where a turn stands -/
def place (qs : List (List Int)) : Nat := (qs.flatMap encq).length
theorem place_snoc (qs : List (List Int)) (k : Int) (as : List Int) : place (qs ++ [k :: as]) = place qs + 3 + as.length := by
  unfold place
  rw [List.flatMap_append, List.length_append]
  simp [encq]
  omega
theorem cut_is {pre as post : List V} {k m z : V} : cutV (pre ++ (k :: m :: (as ++ [z]) ++ post)) (some ((pre.length : Int) + 2)) (some ((pre.length : Int) + 2 + (as.length : Int))) = as := by
  unfold cutV
  have e1 : ((pre.length : Int) + 2) = ((pre.length + 2 : Nat) : Int) := by omega
  have e2 : ((pre.length : Int) + 2 + (as.length : Int)) = ((pre.length + 2 + as.length : Nat) : Int) := by omega
  rw [e2, e1, HT.sIx_nat, HT.sIx_nat]
  have hlen : (pre ++ (k :: m :: (as ++ [z]) ++ post)).length = pre.length + 3 + as.length + post.length := by
    simp
    omega
  rw [hlen, Nat.min_eq_left (by omega), Nat.min_eq_left (by omega), List.drop_append, List.drop_eq_nil_of_le (by omega), List.nil_append]
  have : pre.length + 2 - pre.length = 2 := by omega
  rw [this]
  show List.take _ ((as ++ [z]) ++ post) = as
  have : pre.length + 2 + as.length - (pre.length + 2) = as.length := by omega
  rw [this, List.append_assoc, List.take_left]
def muAns (n : Nat) (σ : List (Option V)) (_ : Hp) : Nat := match σ[3]? with
  | some (some (V.int i)) => n - i.toNat
  | _ => 0
section
variable {P : Program} {w : World} {K : PySem.W.Frag} {mg : Str → Option Value} {base : Heap} {C : Addr}
theorem scS : FnScope ["calls", "box", "answered", "at", "start", "end", "answer"] ["calls"] (defScope sAns) := ⟨rfl, rfl, rfl, by decide +kernel, rfl, by decide +kernel, by decide +kernel⟩
theorem ok_ans {f fI fO PT : Addr} {fd fdI fdO : FuncData} (F : Fun K "answers" "answers" sAns f fd) (T : Txt K mg C) (M : Mk K C fI) (FI : Fun K "__init__" "Box.__init__" sInit fI fdI) (bI : Binds K fdI ["self"] [])
    (kO : PySem.W.keepIn K (.ref fO) = true) (bO : Binds K fdO ["box", "call", "given"] []) (gO : mg "answer_one" = some (.ref fO)) (GO : FnOk P w K mg base CX0 6 fO fdO ["box", "call", "given"] (spOne K C PT)) :
    FnOk P w K mg base CX0 7 f fd ["calls"] (spAns K PT) := by
  have GI : FnOk P w K mg base CX0 1 fI fdI ["self"] (spInit C) := ok_init FI T
  refine F.ok scS (fun vs H Q E h => ?_) (fun cdv A outer s H vs Q E hr h => ?_)
  · obtain ⟨a, ns, rfl, _⟩ := h
    rfl
  · obtain ⟨a, ns, rfl, hS, ht, hask, kk⟩ := h
    have hr2 : Room 2 _ := hr.mono (by decide)
    refine ⟨_, pss_cons (ps_set (i := 1) scS.nd rfl (Or.inl rfl) (pe_make0 M GI hr2 rfl T.gC bI .nil pass0))
      (pss_cons (ps_set (i := 2) scS.nd rfl (Or.inl rfl) (pe_lst pa_nil))
      (pss_cons (ps_set (i := 3) scS.nd rfl (Or.inl rfl) pe_int)
      (pss_cons (ps_while PassesOwn.never (pt_cmpR op_lt (pv 3) (pe_callB call_len_seq (by rfl) T.len PySem.boot_len (pa_cons (pv 0) pa_nil)) (nomark _))
        (pss_cons (ps_set (i := 4) scS.nd rfl (Or.inl rfl) (pe_op op_add (pv 3) pe_int))
        (pss_cons (ps_set (i := 5) scS.nd rfl (Or.inl rfl) (pe_op op_add (pv 4) (pe_ix ix_list (pv 0) (pe_op op_add (pv 3) pe_int) (fun _ _ => rfl))))
        (pss_cons (ps_set (i := 6) scS.nd rfl (Or.inl rfl) (pe_call GO hr rfl gO kO bO .nil pass0 (pa_cons (pv 1) (pa_cons (pe_ix ix_list (pv 0) (pv 3) (fun _ _ => rfl)) (pa_cons (pe_slice sl_list (pv 0) (po_some (pv 4)) (po_some (pv 5))) pa_nil)))))
        (pss_cons (ps_expr (pe_bm PySem.F.plainAttrs_list PySem.F.slot_list_append PySem.F.type_list_append mt_append (pv 2) (pa_cons (pe_callB call_len_seq (by rfl) T.len PySem.boot_len (pa_cons (pv 6) pa_nil)) pa_nil)))
        (pss_cons (ps_expr (pe_bm PySem.F.plainAttrs_list PySem.F.slot_list_extend PySem.F.type_list_extend mt_extend (pv 2) (pa_cons (pv 6) pa_nil)))
        (pss_one (ps_set (i := 3) scS.nd rfl (Or.inl rfl) (pe_op op_add (pv 5) pe_int)))))))))
      (pss_one (ps_ret (pv 2)))))), ?_⟩
    obtain ⟨qs, ask⟩ := asked_of hask
    intro x dx nx ndx ne
    refine ⟨x, dx, rfl, upd_same, fun H1 la ra B hla hra kp => ⟨rfl, ?_⟩⟩
    have s1 : Same H H1 := Same.made nx ndx kp
    have hlaH : H la = none := by
      cases e : H la with
      | none => rfl
      | some o =>
        rw [upd_ne (ne_of_none e nx), upd_ne (ne_of_none e ndx), e] at hla
        cases hla
    have hraH : H ra = none := by
      cases e : H ra with
      | none => rfl
      | some o =>
        rw [upd_ne (ne_of_none e nx), upd_ne (ne_of_none e ndx), e] at hra
        cases hra
    refine ⟨Nat.zero_le _, fun out hout => ?_⟩
    refine while_by (fun σ H' => ∃ (done todo : List (List Int)) (la ra : Addr) (v4 v5 v6 : Option V), qs = done ++ todo ∧ σ = [some (.ref a), some (.ref x), some (.ref out), some (.int (place done : Int)), v4, v5, v6] ∧
        BoxAt C H' x la ra (boxOf done) ∧ H' out = some (.lst ((outOf done).map V.int)) ∧ Off PT H H' ∧ TabS H' PT tq ∧ H la = none ∧ H ra = none ∧ out ≠ la ∧ out ≠ ra) (muAns ns.length) ?_ ?_ ?_
    · have so : Same H1 (upd H1 out (.lst [])) := Same.new hout
      exact ⟨[], qs, la, ra, none, none, none, rfl, rfl, B.same so, upd_same, Off.of (s1.trans so), ht.ext (s1.trans so), hlaH, hraH, (ne_of_none B.ls hout).symm, (ne_of_none B.rs hout).symm⟩
    · rintro σ H' ⟨done, todo, la, ra, v4, v5, v6, hq, rfl, B, ho, sm, tt, hl, hr', nl, nr⟩
      have hSa := sm.seq ht hS
      refine ⟨_, rfl, _, rfl, a, _, rfl, .inl hSa, _, _, rfl, rfl, _, rfl, ?_⟩
      have hns : ns = done.flatMap encq ++ todo.flatMap encq := by rw [ask.line, hq, List.flatMap_append]
      cases todo with
      | nil =>
        refine if_no (decide_eq_false ?_) ?_
        · rw [List.length_map, hns]
          simp [place]
        · refine ⟨_, rfl, ?_⟩
          refine kk H' out ?_
          rw [List.append_nil] at hq
          rw [ask.out, hq]
          exact ho
      | cons q todo =>
        have hmem : q ∈ qs := by rw [hq]; exact List.mem_append_right _ List.mem_cons_self
        obtain ⟨k, as, rfl⟩ : ∃ k as, q = k :: as := by
          cases q with
          | nil => exact absurd rfl (ask.ne _ hmem)
          | cons k as => exact ⟨k, as, rfl⟩
        obtain ⟨c, hc⟩ := ask.form _ hmem
        have hform := form_of (fun z hz => (ask.nat _ hmem z hz).1) hc
        have hn2 : ns.map V.int = (done.flatMap encq).map V.int ++ (V.int k :: V.int (as.length : Int) :: (as.map V.int ++ [V.int 0]) ++ (todo.flatMap encq).map V.int) := by
          rw [hns, List.flatMap_cons]
          simp [encq]
        have hpl : ((done.flatMap encq).map V.int).length = place done := by rw [List.length_map]; rfl
        have hlen : (ns.map V.int).length = place done + 3 + as.length + (todo.flatMap encq).length := by
          rw [hn2]
          simp only [List.length_append, List.length_cons, List.length_map, List.length_nil, place]
          omega
        refine if_yes (decide_eq_true ?_) ?_
        · rw [hlen]
          omega
        · have at0 : (ns.map V.int)[place done]? = some (V.int k) := by
            rw [hn2, ← hpl, List.getElem?_append_right (Nat.le_refl _), Nat.sub_self]
            rfl
          have at1 : (ns.map V.int)[place done + 1]? = some (V.int (as.length : Int)) := by
            rw [hn2, ← hpl, List.getElem?_append_right (by omega), Nat.add_sub_cancel_left]
            rfl
          refine ⟨_, rfl, _, _, rfl, rfl, ?_⟩
          refine ⟨_, rfl, _, rfl, _, rfl, _, _, rfl, rfl, a, _, _, _, rfl, rfl, hSa, at_of (j := place done + 1) (by omega) at1, _, _, rfl, rfl, ?_⟩
          refine ⟨_, rfl, _, rfl, _, rfl, a, _, _, _, rfl, rfl, hSa, at_of (j := place done) rfl at0, _, rfl, _, rfl, _, rfl, _, rfl, _, rfl, a, _, rfl, hSa, fun g hg => ?_⟩
          have sg : Same H' (upd H' g (.lst (cutV (ns.map V.int) (some ((place done : Int) + 2)) (some ((place done : Int) + 2 + (as.length : Int)))))) := Same.new hg
          have ecut : cutV (ns.map V.int) (some ((place done : Int) + 2)) (some ((place done : Int) + 2 + (as.length : Int))) = as.map V.int := by
            have h := cut_is (pre := (done.flatMap encq).map V.int) (as := as.map V.int) (post := (todo.flatMap encq).map V.int) (k := V.int k) (m := V.int (as.length : Int)) (z := V.int 0)
            rw [hpl, List.length_map (as := as)] at h
            rw [hn2]
            exact h
          have hbo := ok_boxOf done (fun z hz => ask.form z (by rw [hq]; exact List.mem_append_left _ hz))
          refine ⟨x, la, ra, g, boxOf done, k, as, c, rfl, B.same sg, hbo, SqL.of (upd_same.trans (by rw [ecut])), hform, tt.ext sg, ?_⟩
          intro H3 r la' ra' hr3 hR B3 ela era kp3 t3
          have hso := step_of (b := boxOf done) hc
          have eout : outOf (done ++ [k :: as]) = outOf done ++ (((ansOf (Si90.step (boxOf done) c).2).length : Nat) : Int) :: ansOf (Si90.step (boxOf done) c).2 := by
            rw [outOf_snoc, hso]
            rfl
          have hbig : (outOf (done ++ [k :: as])).length ≤ 10000000 := by
            refine Nat.le_trans (outOf_le _ todo) ?_
            rw [List.append_assoc]
            have := ask.short
            rw [hq] at this
            exact this
          have hbl : (outOf done).length + 1 + (ansOf (Si90.step (boxOf done) c).2).length ≤ 10000000 := by
            rw [eout, List.length_append, List.length_cons] at hbig
            omega
          have nog : out ≠ g := ne_of_none ho hg
          have hog : upd H' g (.lst (cutV (ns.map V.int) (some ((place done : Int) + 2)) (some ((place done : Int) + 2 + (as.length : Int))))) out = some (.lst ((outOf done).map V.int)) := by
            rw [upd_ne nog]
            exact ho
          have nox : out ≠ x := by
            obtain ⟨dx', hx⟩ := B.obj
            exact ne_of ho hx (by intro z; cases z)
          have noP : out ≠ PT := by
            obtain ⟨tp, hP, _⟩ := tt
            exact ne_of ho hP (by intro z; cases z)
          have ho3 : H3 out = some (.lst ((outOf done).map V.int)) := kp3 out _ noP hog nox nl nr
          have nro : r ≠ out := fun e => by rw [e, hog] at hr3; cases hr3
          have nl' : out ≠ la' := by
            rcases ela with rfl | e
            · exact nl
            · exact ne_of_none hog e
          have nr' : out ≠ ra' := by
            rcases era with rfl | e
            · exact nr
            · exact ne_of_none hog e
          have hsz : 10000001 < sizeLine := by decide
          refine ⟨_, rfl, .inl ⟨rfl, _, SqL.of ho3⟩, _, rfl, r, _, rfl, .inl (SqL.of hR), out, _, _, rfl, rfl, ho3, (by rw [List.length_map]; omega), ?_⟩
          refine ⟨_, rfl, .inl ⟨rfl, _, SqL.of upd_same⟩, _, rfl, out, r, _, _, rfl, rfl, upd_same, (by rw [upd_ne nro]; exact hR), ?_, ?_⟩
          · rw [List.length_append, List.length_map, List.length_map]
            show (outOf done).length + 1 + _ ≤ _
            omega
          · refine ⟨_, rfl, _, _, rfl, rfl, ⟨done ++ [k :: as], todo, la', ra', some (.int ((place done : Int) + 2)), some (.int ((place done : Int) + 2 + (as.length : Int))), some (.ref r), ?_, ?_, ?_, ?_, ?_, ?_, ?_, ?_, nl', nr'⟩, ?_⟩
            · rw [hq, List.append_assoc]
              rfl
            · have : ((place done : Int) + 2 + (as.length : Int) + 1) = (place (done ++ [k :: as]) : Int) := by
                rw [place_snoc]
                omega
              rw [← this]
              rfl
            · rw [boxOf_snoc, hso]
              obtain ⟨dx3, hx3⟩ := B3.obj
              refine ⟨⟨dx3, ?_⟩, ?_, ?_, B3.ne⟩
              · rw [upd_ne nox.symm, upd_ne nox.symm]
                exact hx3
              · rw [upd_ne nl'.symm, upd_ne nl'.symm]
                exact B3.ls
              · rw [upd_ne nr'.symm, upd_ne nr'.symm]
                exact B3.rs
            · rw [upd_same, eout]
              rw [List.map_append, List.map_cons, List.append_assoc, List.length_map]
              rfl
            · intro q o nP e
              have hqo : q ≠ out := by
                intro z
                rw [z] at e
                have := s1 _ _ e
                rw [hout] at this
                cases this
              rw [upd_ne hqo, upd_ne hqo]
              refine kp3 q o nP (sg q o (sm q o nP e)) ?_ (ne_of_none e hl) (ne_of_none e hr')
              exact ne_of_none e nx
            · refine Gp.TabS.part t3 fun q o e n1 _ => ?_
              have hqo : q ≠ out := by
                intro z
                rw [z, ho3] at e
                exact n1 _ (Option.some.inj e).symm
              rw [upd_ne hqo, upd_ne hqo]
              exact e
            · rcases ela with rfl | e
              · exact hl
              · exact sm.none tt (Same.free sg e)
            · rcases era with rfl | e
              · exact hr'
              · exact sm.none tt (Same.free sg e)
            · show ns.length - ((place done : Int) + 2 + (as.length : Int) + 1).toNat < ns.length - ((place done : Int)).toNat
              rw [List.length_map] at hlen
              omega
    · rintro σ H' Q1 Q2 hQ ⟨v, h1, v0, h2, p, ys, e, hs, i, j, e1, e2, k, e3, q⟩
      exact ⟨v, h1, v0, h2, p, ys, e, hs, i, j, e1, e2, k, e3, hQ _ _ q⟩
end
end Gp
namespace Gp
open PySem PySem.Spec PyProof.Rows L2 LamX
open PySem.W (Codec)
section
variable {P : Program} {w : World} {K : PySem.W.Frag} {mg : Str → Option Value} {base : Heap} {C : Addr}
theorem scO : FnScope ["box", "call", "given"] ["box", "call", "given"] (defScope sOne) := ⟨rfl, rfl, rfl, by decide +kernel, rfl, by decide +kernel, by decide +kernel⟩
theorem ok_one {f fB fL fR fK fE fI fN PT : Addr} {fd fdB fdL fdR fdK fdE fdI fdN : FuncData} (F : Fun K "answer_one" "answer_one" sOne f fd) (T : Txt K mg C)
    (GB : FnOk P w K mg base CX0 1 fB fdB ["self", "differ"] (spBegins C)) (yB : Binds K fdB ["self", "differ"] []) (mB : Meth K C "begins" fB)
    (GL : FnOk P w K mg base CX0 2 fL fdL ["self", "size"] (spLeft C)) (yL : Binds K fdL ["self", "size"] []) (mL : Meth K C "left" fL)
    (GR : FnOk P w K mg base CX0 2 fR fdR ["self", "size"] (spRight C)) (yR : Binds K fdR ["self", "size"] []) (mR : Meth K C "right" fR)
    (GK : FnOk P w K mg base CX0 5 fK fdK ["self", "plan"] (spCheck K C)) (yK : Binds K fdK ["self", "plan"] []) (mK : Meth K C "check" fK)
    (GE : FnOk P w K mg base CX0 4 fE fdE ["self"] (spBest C)) (yE : Binds K fdE ["self"] []) (mE : Meth K C "best" fE)
    (GI : FnOk P w K mg base CX0 5 fI fdI ["self"] (spPlain C PT)) (yI : Binds K fdI ["self"] []) (mI : Meth K C "plain" fI)
    (GN : FnOk P w K mg base CX0 4 fN fdN ["self", "pairs"] (spNeeds C)) (yN : Binds K fdN ["self", "pairs"] []) (mN : Meth K C "needs" fN) :
    FnOk P w K mg base CX0 6 f fd ["box", "call", "given"] (spOne K C PT) := by
  refine F.ok scO (fun vs H Q E h => ?_) (fun cdv A outer s H vs Q E hr h => ?_)
  · obtain ⟨p, la, ra, g, b, k, as, c, rfl, _⟩ := h
    rfl
  · obtain ⟨p, la, ra, g, b, k, as, c, rfl, B, ob, hg, hf, ht, dT⟩ := h
    have d := dT.old B ht
    have hr1 : Room 1 _ := hr.mono (by decide)
    have hr2 : Room 2 _ := hr.mono (by decide)
    have hr4 : Room 4 _ := hr.mono (by decide)
    refine ⟨_, pss_cons (ps_if (pt_cmpR op_eq (pv 1) pe_int (nomark _)) (pss_one (ps_ret (pe_meth (pv 0) T.cl mB GB hr1 yB .nil pass0 (pa_cons (pe_ix ix_list (pv 2) pe_int (fun _ _ => rfl)) pa_nil)))) pss_nil)
      (pss_cons (ps_if (pt_cmpR op_eq (pv 1) pe_int (nomark _)) (pss_one (ps_ret (pe_meth (pv 0) T.cl mL GL hr2 yL .nil pass0 (pa_cons (pe_ix ix_list (pv 2) pe_int (fun _ _ => rfl)) pa_nil)))) pss_nil)
      (pss_cons (ps_if (pt_cmpR op_eq (pv 1) pe_int (nomark _)) (pss_one (ps_ret (pe_meth (pv 0) T.cl mR GR hr2 yR .nil pass0 (pa_cons (pe_ix ix_list (pv 2) pe_int (fun _ _ => rfl)) pa_nil)))) pss_nil)
      (pss_cons (ps_if (pt_cmpR op_eq (pv 1) pe_int (nomark _)) (pss_one (ps_ret (pe_meth (pv 0) T.cl mK GK hr yK .nil pass0 (pa_cons (pv 2) pa_nil)))) pss_nil)
      (pss_cons (ps_if (pt_cmpR op_eq (pv 1) pe_int (nomark _)) (pss_one (ps_ret (pe_meth0 (pv 0) T.cl mE GE hr4 yE .nil pass0))) pss_nil)
      (pss_cons (ps_if (pt_cmpR op_eq (pv 1) pe_int (nomark _)) (pss_one (ps_ret (pe_meth0 (pv 0) T.cl mI GI hr yI .nil pass0))) pss_nil)
      (pss_one (ps_ret (pe_meth (pv 0) T.cl mN GN hr4 yN .nil pass0 (pa_cons (pe_ix ix_list (pv 2) pe_int (fun _ _ => rfl)) pa_nil))))))))), ?_⟩
    obtain ⟨dx, hp⟩ := B.obj
    refine ⟨_, rfl, rfl, _, rfl, ?_⟩
    cases hf with
    | begins n =>
      refine if_yes (by decide) ?_
      exact ⟨_, rfl, p, dx, _, rfl, hp, bF_no _ _ _ (by decide +kernel) (by decide +kernel) (by decide +kernel), _, rfl, g, _, 0, _, rfl, rfl, hg, at_of (j := 0) rfl rfl, p, la, ra, b, n, rfl, B, d⟩
    | left n =>
      refine if_no (by decide) ?_
      refine ⟨_, rfl, rfl, _, rfl, ?_⟩
      refine if_yes (by decide) ?_
      exact ⟨_, rfl, p, dx, _, rfl, hp, bF_no _ _ _ (by decide +kernel) (by decide +kernel) (by decide +kernel), _, rfl, g, _, 0, _, rfl, rfl, hg, at_of (j := 0) rfl rfl, p, la, ra, b, n, rfl, B, ob, d⟩
    | right n =>
      refine if_no (by decide) ?_
      refine ⟨_, rfl, rfl, _, rfl, ?_⟩
      refine if_no (by decide) ?_
      refine ⟨_, rfl, rfl, _, rfl, ?_⟩
      refine if_yes (by decide) ?_
      exact ⟨_, rfl, p, dx, _, rfl, hp, bF_no _ _ _ (by decide +kernel) (by decide +kernel) (by decide +kernel), _, rfl, g, _, 0, _, rfl, rfl, hg, at_of (j := 0) rfl rfl, p, la, ra, b, n, rfl, B, ob, d⟩
    | check r hlen =>
      refine if_no (by decide) ?_
      refine ⟨_, rfl, rfl, _, rfl, ?_⟩
      refine if_no (by decide) ?_
      refine ⟨_, rfl, rfl, _, rfl, ?_⟩
      refine if_no (by decide) ?_
      refine ⟨_, rfl, rfl, _, rfl, ?_⟩
      refine if_yes (by decide) ?_
      have e1 : (Si90.step b (.check r)).1 = b := by
        show (if b.told r = false then (b, Si90.ok (-1)) else (b, _)).1 = b
        split <;> rfl
      rw [e1] at d
      refine ⟨_, rfl, p, dx, _, rfl, hp, bF_no _ _ _ (by decide +kernel) (by decide +kernel) (by decide +kernel), _, rfl, p, la, ra, g, b, r, rfl, B, ?_, by omega, fun H' q s1 hq hR => ?_⟩
      · rw [nv_int]
        exact hg
      · exact d.use hq hR (B.same s1) (.inl rfl) (.inl rfl) fun q o e _ _ _ => s1 q o e
    | best =>
      refine if_no (by decide) ?_
      refine ⟨_, rfl, rfl, _, rfl, ?_⟩
      refine if_no (by decide) ?_
      refine ⟨_, rfl, rfl, _, rfl, ?_⟩
      refine if_no (by decide) ?_
      refine ⟨_, rfl, rfl, _, rfl, ?_⟩
      refine if_no (by decide) ?_
      refine ⟨_, rfl, rfl, _, rfl, ?_⟩
      refine if_yes (by decide) ?_
      refine ⟨_, rfl, p, dx, _, rfl, hp, bF_no _ _ _ (by decide +kernel) (by decide +kernel) (by decide +kernel), p, la, ra, b, rfl, B, ob, fun H' q s1 hq hR => ?_⟩
      exact d.use hq hR (B.same s1) (.inl rfl) (.inl rfl) fun q o e _ _ _ => s1 q o e
    | plain =>
      refine if_no (by decide) ?_
      refine ⟨_, rfl, rfl, _, rfl, ?_⟩
      refine if_no (by decide) ?_
      refine ⟨_, rfl, rfl, _, rfl, ?_⟩
      refine if_no (by decide) ?_
      refine ⟨_, rfl, rfl, _, rfl, ?_⟩
      refine if_no (by decide) ?_
      refine ⟨_, rfl, rfl, _, rfl, ?_⟩
      refine if_no (by decide) ?_
      refine ⟨_, rfl, rfl, _, rfl, ?_⟩
      refine if_yes (by decide) ?_
      refine ⟨_, rfl, p, dx, _, rfl, hp, bF_no _ _ _ (by decide +kernel) (by decide +kernel) (by decide +kernel), p, la, ra, b, rfl, B, ob, ht, fun H' q o1 t1 hq hR => ?_⟩
      exact dT H' q la ra hq hR (B.off ht o1) (.inl rfl) (.inl rfl) (fun q o n e _ _ _ => o1 q o n e) t1
    | needs n =>
      refine if_no (by decide) ?_
      refine ⟨_, rfl, rfl, _, rfl, ?_⟩
      refine if_no (by decide) ?_
      refine ⟨_, rfl, rfl, _, rfl, ?_⟩
      refine if_no (by decide) ?_
      refine ⟨_, rfl, rfl, _, rfl, ?_⟩
      refine if_no (by decide) ?_
      refine ⟨_, rfl, rfl, _, rfl, ?_⟩
      refine if_no (by decide) ?_
      refine ⟨_, rfl, rfl, _, rfl, ?_⟩
      refine if_no (by decide) ?_
      refine ⟨_, rfl, p, dx, _, rfl, hp, bF_no _ _ _ (by decide +kernel) (by decide +kernel) (by decide +kernel), _, rfl, g, _, 0, _, rfl, rfl, hg, at_of (j := 0) rfl rfl, p, la, ra, b, n, rfl, B, ob, fun H' q s1 hq hR => ?_⟩
      exact d.use hq hR (B.same s1) (.inl rfl) (.inl rfl) fun q o e _ _ _ => s1 q o e
end
end Gp
/-! ### the end of a Spec row where one def's table of code objects may grow -/
namespace Gp
open PySem PySem.Spec PyProof.Rows L2 LamX
open PySem.W (WData Codec OpenSpec Well WellAll ReadsW ReadsAllW)
section
variable {P : Program} {w : World} {K : PySem.W.Frag}
/-- nothing of the arguments stands at a table -/
theorem arg_off {h : Heap} {A : List Addr} (ar : ∀ a ∈ A, ArgOb h A a) {b : Addr} {o : Obj} (e : h.get? b = some o) (n : ∀ vs ep, o.data ≠ .seq vs ep) : argH K h A b = none := by
  cases q : argH K h A b with
  | none => rfl
  | some u =>
    obtain ⟨_, vs, _, _, ⟨z, _⟩ | ⟨z, _⟩⟩ := argH_is ar q
    · rw [z] at e
      cases e
      exact absurd rfl (n _ _)
    · rw [z] at e
      cases e
      exact absurd rfl (n _ _)
theorem call_tab {mg mb : Str → Option Value} {k : Nat} {fa c PT : Addr} {fd : FuncData} {ps : List Str} {sp : Sp} {s₁ : Shared} {vals : List Value} {ds : List WData} {R : PySem.W.WRecords} {cl : Str → Option Addr} {d0 : WData}
    (KX : K.In s₁.heap) (hns : s₁.heap.Ns mainGlobals mg) (hb : s₁.heap.Ns builtinsNs mb) (hbb : ∀ x : Str, x ≠ "__name__" → mb x = bootBuiltins x) (hlim : s₁.heap.NoLimit) (hg : s₁.gens = #[])
    (hbm : ∃ bm ob, mg "__builtins__" = some (.ref bm) ∧ bm ≠ builtinsNs ∧ s₁.heap.get? bm = some ob ∧ ob.cls = .type "module" ∧ ob.dict = some builtinsNs ∧ ob.data = .plain)
    (hC : PySem.W.CodeHd s₁.heap c PT) (hP : s₁.heap.get? PT = some (PySem.W.tabObj #[])) (nT : K.lookup PT = none) (hwl : WellAll w.params s₁.heap vals ds) (hpl : plWs ds = true) (hwt : ∀ d ∈ ds, d.weight ≤ 1048576) (hr : Room k callerA)
    (F : ∀ base : Heap, K.In base → base.Ns mainGlobals mg → TabB base mg c PT → FnOk P w K mg base CX0 k fa fd ps sp) (hbind : ∀ (s : Shared) (us : List Value), us.length = ps.length → BindsTo s fd ⟨us, []⟩ (ps.zip us)) (hlen : ds.length = ps.length)
    (hsp : ∀ (H : Hp) (xs : List V), H PT = none → DwAll K H xs ds → sp xs (upd H PT (.tbl #[])) (fun v H' => Dw K H' v d0) fun _ _ _ => False) :
    codeAny (model P w) callerA (.call (.ref fa) ⟨vals, []⟩) (fun r s' => ∃ u as, r = .ok (.ret u) ∧ ReadsW R cl s'.heap u d0 as ∧ OldK s₁.heap s'.heap ∧ s'.os = s₁.os ∧ AllBare s'.gens) s₁ := by
  obtain ⟨A, ho, ar⟩ := area_all ds vals hwl hpl hwt
  have hPn : argH K s₁.heap A PT = none := arg_off ar hP fun vs ep z => by cases z
  have hok0 : HOk P w (argH K s₁.heap A) s₁.heap := argH_ok ar
  have hS := hsp _ _ hPn (dw_all KX ar ds vals hwl hpl ho)
  have hV := vals_toV ho
  have off0 : ∀ {b : Addr} {o : Obj}, s₁.heap.get? b = some o → (∀ vs ep, o.data ≠ .seq vs ep) → o ≠ PySem.W.tabObj #[] → upd (argH K s₁.heap A) PT (.tbl #[]) b = none := fun {b o} e n1 n2 => by
    rw [upd_ne]
    · exact arg_off ar e n1
    · intro z
      rw [z, hP] at e
      exact n2 (Option.some.inj e).symm
  have inK : ∀ b u, upd (argH K s₁.heap A) PT (.tbl #[]) b = some u → K.lookup b = none := fun b u q => by
    by_cases z : b = PT
    · rw [z]
      exact nT
    · rw [upd_ne z] at q
      exact (argH_is ar q).1
  have hok : HOk P w (upd (argH K s₁.heap A) PT (.tbl #[])) s₁.heap := fun b u q => by
    by_cases z : b = PT
    · rw [z, upd_same] at q
      cases q
      rw [z]
      exact hP
    · rw [upd_ne z] at q
      exact (hok0 b u q).stay (fun d v _ y => y) (fun d y => by rw [upd_ne (ne_of_none y hPn)]; exact y) fun d xs y => by rw [upd_ne (ne_of_none y hPn)]; exact y
  have kinds : ∀ b, upd (argH K s₁.heap A) PT (.tbl #[]) b = none ∨ b = PT ∨ ∃ o u, upd (argH K s₁.heap A) PT (.tbl #[]) b = some (.frz o u) := fun b => by
    by_cases z : b = PT
    · exact .inr (.inl z)
    · rw [upd_ne z]
      rcases argH_only ar b with y | y
      · exact .inl y
      · exact .inr (.inr y)
  have tabbed : upd (argH K s₁.heap A) PT (.tbl #[]) PT = some (.tbl #[]) := upd_same
  generalize upd (argH K s₁.heap A) PT (.tbl #[]) = H at hS off0 inK hok kinds tabbed
  have base_of : ∀ {b : Addr} {o : Obj}, s₁.heap.get? b = some o → H b = none → (hidT s₁.heap H).get? b = some o := fun e n => hidT_get e n
  have nsB : ∀ {b : Addr} {m : Str → Option Value}, s₁.heap.Ns b m → (hidT s₁.heap H).Ns b m := fun {b m} x => by
    obtain ⟨o, es, ep, e, d, r⟩ := x
    refine ⟨o, es, ep, base_of e (off0 e (fun vs n z => ?_) fun z => ?_), d, r⟩
    · rw [d] at z
      cases z
    · rw [z] at d
      cases d
  have KB : K.In (hidT s₁.heap H) := fun b o e => base_of (KX b o e) (by
    cases q : H b with
    | none => rfl
    | some u =>
      rw [inK b u q] at e
      cases e)
  obtain ⟨mc, lim1, lim2⟩ := hlim
  have hM : L2.Mod K mg (hidT s₁.heap H) := ⟨KB, nsB hns, ⟨mb, nsB hb, hbb⟩, ⟨mc, nsB lim1, lim2⟩⟩
  have TB : TabB (hidT s₁.heap H) mg c PT := by
    refine ⟨?_, ?_, fun z => ?_⟩
    · obtain ⟨o, us, file, tf, flags, tg, inF, text, tt, e1, r1, r2, r3, rest⟩ := hC
      refine ⟨o, us, file, tf, flags, tg, inF, text, tt, base_of e1 (off0 e1 (fun vs n z => ?_) fun z => ?_), r1, r2, r3, rest⟩
      · rw [r2] at z
        cases z
      · rw [z] at r1
        cases r1
    · obtain ⟨bm, ob, b1, b2, b3, b4, b5, b6⟩ := hbm
      have nG : bm ≠ mainGlobals := fun q => by
        obtain ⟨o, es, ep, e, d, _⟩ := hns
        rw [q, e] at b3
        cases b3
        rw [d] at b6
        cases b6
      have nP : bm ≠ PT := fun q => by
        rw [q, hP] at b3
        cases b3
        cases b6
      refine ⟨bm, ob, b1, b2, nG, nP, base_of b3 (off0 b3 (fun vs n z => ?_) fun z => ?_), b4, b5, b6⟩
      · rw [b6] at z
        cases z
      · rw [z] at b6
        cases b6
    · obtain ⟨o, es, ep, e, d, _⟩ := hns
      rw [z, hP] at e
      cases e
      cases d
  have e0 : Env0 P w K mg (hidT s₁.heap H) callerA [] s₁ H := ⟨rfl, hM, fun b o e => of_hidT e, Nat.le_of_eq (hidT_size _ _), trivial, fun b z => absurd (show b ∈ ([] : List Addr) from z) List.not_mem_nil, hok, .of_eq hg⟩
  have hl : vals.length = ps.length := by
    rw [wellAll_len hwl]
    exact hlen
  refine codeAny_mono ((F _ KB (nsB hns) TB).run callerA [] s₁ H ⟨vals, []⟩ vals (vals.map toV) _ _ hr e0 (hbind s₁ vals hl) hV hS) fun r s' x => ?_
  cases r with
  | error e => exact False.elim x
  | ok fl =>
    cases fl with
    | next => exact False.elim x
    | brk => exact False.elim x
    | cont => exact False.elim x
    | ret u =>
      obtain ⟨v, H', os, bare, un, hok', rv, q⟩ := x
      have kept : ∀ b o, b ≠ PT → s₁.heap.get? b = some o → s'.heap.get? b = some o := fun b o n e => by
        rcases kinds b with z | z | ⟨ob, u3, z⟩
        · exact un.keep b o e z (fun y => absurd (show b ∈ ([] : List Addr) from y) List.not_mem_nil) List.not_mem_nil
        · exact absurd z n
        · obtain ⟨y1, _⟩ := hok b _ z
          obtain ⟨y2, _⟩ := hok' b _ (un.frzs b ob _ z)
          rw [e] at y1
          cases y1
          exact y2
      obtain ⟨more, hm⟩ : ∃ more : Array Value, s'.heap.get? PT = some { cls := .none, data := .fields more } := by
        obtain ⟨more, z⟩ := un.tbls PT #[] tabbed
        exact ⟨_, hok' PT _ z⟩
      have KX' : K.In s'.heap := fun b o e => kept b o (fun z => by rw [z, nT] at e; cases e) (KX b o e)
      obtain ⟨as, hrd⟩ := Dw.reads (R := R) (cl := cl) hok' KX' d0 v u q rv
      refine ⟨u, as, rfl, hrd, ⟨fun b o e => ?_, fun b o e => ?_⟩, os, bare⟩
      · by_cases z : b = PT
        · rw [z] at e ⊢
          rw [hP] at e
          cases e
          exact .inr (.inl ⟨(hC.tab hP).isCodeTable, rfl, #[], more, rfl, by rw [Array.empty_append]; exact hm⟩)
        · exact .inl (kept b o z e)
      · by_cases z : b = PT
        · rw [z]
          exact ⟨_, hm⟩
        · exact ⟨o, kept b o z e⟩
end
theorem weights {ds : List WData} (h : WData.layableAll ds = true) : ∀ d ∈ ds, d.weight ≤ 1048576 := layable_weight h
/-- what k_headS leaves, from the promise of the row's def, the def x's table being tracked -/
theorem walk_tab {r : OpenSpec} {k : Nat} {q : Program} {loose : List Str} {XP : (Str → Option Value) → Heap → Prop} {YP : World → Heap → Prop} {d dZ : DefRec} {K : Params → PySem.W.Frag} {ps : List Str} {sp : PySem.W.Frag → Sp} {c PT : Addr} {x : Str}
    (hwell : r.wellSaid = true) (hlen : r.args.length = ps.length) (hr : Room k callerA) (hY : ∀ (w : World) (h : Heap), YP w h → (K w.params).In h)
    (hx : (recsOf q).find? (fun e => e.name == x) = some dZ) (ht : ∀ p : Params, PySem.W.tabIn (K p) x = some (c, PT)) (nT : ∀ p : Params, (K p).lookup PT = none)
    (F : ∀ (w : World) (mg : Str → Option Value) (fa : Addr) (h : Heap), YP w h → (K w.params).In h → h.Ns mainGlobals mg → mg d.name = some (.ref fa) →
      ∃ fd : FuncData, (∀ (s : Shared) (us : List Value), us.length = ps.length → BindsTo s fd ⟨us, []⟩ (ps.zip us)) ∧
        ∀ base : Heap, (K w.params).In base → base.Ns mainGlobals mg → TabB base mg c PT → FnOk r.prog w (K w.params) mg base CX0 k fa fd ps (sp (K w.params)))
    (hsp : ∀ (K : PySem.W.Frag) (H : Hp) (xs : List V) (a : Codec.denoteAll r.args), H PT = none → Codec.withinAll r.args a = true → Codec.app r.args r.asked a = true → DwAll K H xs (Codec.encAll r.args a) →
      sp K xs (upd H PT (.tbl #[])) (fun v H' => Dw K H' v (r.ret.enc (Codec.app r.args r.f a))) fun _ _ _ => False) :
    PySem.W.WalkOS q loose XP YP r d [] (fun f vs => PySem.call f vs) := by
  intro w s₀ s₁ mg mb G Y fa o pm cd doc dV kV ho hd hcd hD hmg hg args vals as hpre hlay hrd hwl hlo
  obtain ⟨a, e1, e2⟩ := PySem.W.os_pre_some hpre
  obtain ⟨rfl, hwi⟩ := Codec.encAll_of_decAll r.args args a e1
  have KX := hY w _ Y
  obtain ⟨fd, hb, hF⟩ := F w mg fa _ Y KX G.T.g hmg
  obtain ⟨hC, hP⟩ := PySem.W.tab_of G.T KX hx (ht w.params)
  refine PySem.W.enter_call (codeAny_mono (call_tab (R := []) (cl := classAt s₀.heap) (d0 := r.ret.enc (Codec.app r.args r.f a)) KX G.T.g G.T.b G.T.builtins G.T.nolimit hg G.T.bmain hC hP (nT w.params) hwl (pl_encAll _ _) (weights hlay) hr hF hb
    (by rw [encAll_len]; exact hlen) fun H xs hn hS => hsp (K w.params) H xs a hn hwi e2 hS) fun r' s' hq => ?_)
  obtain ⟨u, as', rfl, h1, h2, h3, h4⟩ := hq
  exact ⟨.inl ⟨u, _, as', rfl, fun _ => rfl, h1, (OpenSpec.post_iff hwell hwi _ _).mpr rfl, fun z => Bool.noConfusion (show false = true from z)⟩, h2, h3, h4⟩
end Gp
namespace Gp
open PySem PySem.Spec PyProof.Rows L2 LamX
open PySem.W (Codec)
theorem all_mk {P : Program} {w : World} {K : PySem.W.Frag} {h : Heap} {mg : Str → Option Value} {fa C fI fB fL fR fK fE fN fD fQ fP fG fJ fM fW fV fH fF fA fT fX fY fU fZ fO fS : Addr} (X : K.In h) (G : h.Ns mainGlobals mg) (hfa : mg "answers" = some (.ref fa))
    {odI anI odB anB odL anL odR anR odK anK odE anE odN anN odD anD odQ anQ odP anP odG anG odJ anJ odM anM odW anW odV anV odH anH odF anF odA anA odT anT odX anX odY anY odU anU odZ anZ odO anO odS anS : Option Addr} {slI slB slL slR slK slE slN slD slQ slP slG slJ slM slW slV slH slF slA slT slX slY slU slZ slO slS : Array (Option Value)} {ocI kVI dcI pmI cdI ctI ocB kVB dcB pmB cdB ctB ocL kVL dcL pmL cdL ctL ocR kVR dcR pmR cdR ctR ocK kVK dcK pmK cdK ctK ocE kVE dcE pmE cdE ctE ocN kVN dcN pmN cdN ctN ocD kVD dcD pmD cdD ctD ocQ kVQ dcQ pmQ cdQ ctQ ocP kVP dcP pmP cdP ctP ocG kVG dcG pmG cdG ctG ocJ kVJ dcJ pmJ cdJ ctJ ocM kVM dcM pmM cdM ctM ocW kVW dcW pmW cdW ctW ocV kVV dcV pmV cdV ctV ocH kVH dcH pmH cdH ctH ocF kVF dcF pmF cdF ctF ocA kVA dcA pmA cdA ctA ocT kVT dcT pmT cdT ctT ocX kVX dcX pmX cdX ctX ocY kVY dcY pmY cdY ctY ocU kVU dcU pmU cdU ctU ocZ kVZ dcZ pmZ ctZ ocO kVO dcO pmO cdO ctO ocS kVS dcS pmS cdS ctS : Value}
    {zc zt : Addr}
    (aC : PySem.W.nsIn K mainGlobals "Box" = some (some (.ref C)))
    (aI : PySem.W.findIn K (.ref C) "__init__" = some (some (.ref fI))) (iI : PySem.W.isFn K (.ref fI) = true)
    (lI : K.lookup fI = some ⟨ocI, odI, .func (PySem.W.fnOf "__init__" "Box.__init__" (defArgs sInit) (defBody sInit) (defScope sInit) .none kVI dcI pmI anI cdI ctI), slI⟩) (cI : PySem.W.codeIn K cdI "Box.__init__" = true) (kI : PySem.W.keepIn K (.ref fI) = true)
    (aB : PySem.W.findIn K (.ref C) "begins" = some (some (.ref fB))) (iB : PySem.W.isFn K (.ref fB) = true)
    (lB : K.lookup fB = some ⟨ocB, odB, .func (PySem.W.fnOf "begins" "Box.begins" (defArgs sBegins) (defBody sBegins) (defScope sBegins) .none kVB dcB pmB anB cdB ctB), slB⟩) (cB : PySem.W.codeIn K cdB "Box.begins" = true) (kB : PySem.W.keepIn K (.ref fB) = true)
    (aL : PySem.W.findIn K (.ref C) "left" = some (some (.ref fL))) (iL : PySem.W.isFn K (.ref fL) = true)
    (lL : K.lookup fL = some ⟨ocL, odL, .func (PySem.W.fnOf "left" "Box.left" (defArgs sLeft) (defBody sLeft) (defScope sLeft) .none kVL dcL pmL anL cdL ctL), slL⟩) (cL : PySem.W.codeIn K cdL "Box.left" = true) (kL : PySem.W.keepIn K (.ref fL) = true)
    (aR : PySem.W.findIn K (.ref C) "right" = some (some (.ref fR))) (iR : PySem.W.isFn K (.ref fR) = true)
    (lR : K.lookup fR = some ⟨ocR, odR, .func (PySem.W.fnOf "right" "Box.right" (defArgs sRight) (defBody sRight) (defScope sRight) .none kVR dcR pmR anR cdR ctR), slR⟩) (cR : PySem.W.codeIn K cdR "Box.right" = true) (kR : PySem.W.keepIn K (.ref fR) = true)
    (aK : PySem.W.findIn K (.ref C) "check" = some (some (.ref fK))) (iK : PySem.W.isFn K (.ref fK) = true)
    (lK : K.lookup fK = some ⟨ocK, odK, .func (PySem.W.fnOf "check" "Box.check" (defArgs sCheck) (defBody sCheck) (defScope sCheck) .none kVK dcK pmK anK cdK ctK), slK⟩) (cK : PySem.W.codeIn K cdK "Box.check" = true) (kK : PySem.W.keepIn K (.ref fK) = true)
    (aE : PySem.W.findIn K (.ref C) "best" = some (some (.ref fE))) (iE : PySem.W.isFn K (.ref fE) = true)
    (lE : K.lookup fE = some ⟨ocE, odE, .func (PySem.W.fnOf "best" "Box.best" (defArgs sBest) (defBody sBest) (defScope sBest) .none kVE dcE pmE anE cdE ctE), slE⟩) (cE : PySem.W.codeIn K cdE "Box.best" = true) (kE : PySem.W.keepIn K (.ref fE) = true)
    (aN : PySem.W.findIn K (.ref C) "plain" = some (some (.ref fN))) (iN : PySem.W.isFn K (.ref fN) = true)
    (lN : K.lookup fN = some ⟨ocN, odN, .func (PySem.W.fnOf "plain" "Box.plain" (defArgs sPlain) (defBody sPlain) (defScope sPlain) .none kVN dcN pmN anN cdN ctN), slN⟩) (cN : PySem.W.codeIn K cdN "Box.plain" = true) (kN : PySem.W.keepIn K (.ref fN) = true)
    (aD : PySem.W.findIn K (.ref C) "needs" = some (some (.ref fD))) (iD : PySem.W.isFn K (.ref fD) = true)
    (lD : K.lookup fD = some ⟨ocD, odD, .func (PySem.W.fnOf "needs" "Box.needs" (defArgs sNeeds) (defBody sNeeds) (defScope sNeeds) .none kVD dcD pmD anD cdD ctD), slD⟩) (cD : PySem.W.codeIn K cdD "Box.needs" = true) (kD : PySem.W.keepIn K (.ref fD) = true)
    (aQ : PySem.W.findIn K (.ref C) "is_plan" = some (some (.ref fQ))) (iQ : PySem.W.isFn K (.ref fQ) = true)
    (lQ : K.lookup fQ = some ⟨ocQ, odQ, .func (PySem.W.fnOf "is_plan" "Box.is_plan" (defArgs sIsPlan) (defBody sIsPlan) (defScope sIsPlan) .none kVQ dcQ pmQ anQ cdQ ctQ), slQ⟩) (cQ : PySem.W.codeIn K cdQ "Box.is_plan" = true) (kQ : PySem.W.keepIn K (.ref fQ) = true)
    (aP : PySem.W.findIn K (.ref C) "paired" = some (some (.ref fP))) (iP : PySem.W.isFn K (.ref fP) = true)
    (lP : K.lookup fP = some ⟨ocP, odP, .func (PySem.W.fnOf "paired" "Box.paired" (defArgs sPaired) (defBody sPaired) (defScope sPaired) .none kVP dcP pmP anP cdP ctP), slP⟩) (cP : PySem.W.codeIn K cdP "Box.paired" = true) (kP : PySem.W.keepIn K (.ref fP) = true)
    (aG : PySem.W.findIn K (.ref C) "gap" = some (some (.ref fG))) (iG : PySem.W.isFn K (.ref fG) = true)
    (lG : K.lookup fG = some ⟨ocG, odG, .func (PySem.W.fnOf "gap" "Box.gap" (defArgs sGap) (defBody sGap) (defScope sGap) .none kVG dcG pmG anG cdG ctG), slG⟩) (cG : PySem.W.codeIn K cdG "Box.gap" = true) (kG : PySem.W.keepIn K (.ref fG) = true)
    (aJ : PySem.W.findIn K (.ref C) "gaps" = some (some (.ref fJ))) (iJ : PySem.W.isFn K (.ref fJ) = true)
    (lJ : K.lookup fJ = some ⟨ocJ, odJ, .func (PySem.W.fnOf "gaps" "Box.gaps" (defArgs sGaps) (defBody sGaps) (defScope sGaps) .none kVJ dcJ pmJ anJ cdJ ctJ), slJ⟩) (cJ : PySem.W.codeIn K cdJ "Box.gaps" = true) (kJ : PySem.W.keepIn K (.ref fJ) = true)
    (aM : PySem.W.findIn K (.ref C) "pairs_of" = some (some (.ref fM))) (iM : PySem.W.isFn K (.ref fM) = true)
    (lM : K.lookup fM = some ⟨ocM, odM, .func (PySem.W.fnOf "pairs_of" "Box.pairs_of" (defArgs sPairsOf) (defBody sPairsOf) (defScope sPairsOf) .none kVM dcM pmM anM cdM ctM), slM⟩) (cM : PySem.W.codeIn K cdM "Box.pairs_of" = true) (kM : PySem.W.keepIn K (.ref fM) = true)
    (aW : PySem.W.findIn K (.ref C) "off" = some (some (.ref fW))) (iW : PySem.W.isFn K (.ref fW) = true)
    (lW : K.lookup fW = some ⟨ocW, odW, .func (PySem.W.fnOf "off" "Box.off" (defArgs sOff) (defBody sOff) (defScope sOff) .none kVW dcW pmW anW cdW ctW), slW⟩) (cW : PySem.W.codeIn K cdW "Box.off" = true) (kW : PySem.W.keepIn K (.ref fW) = true)
    (aV : PySem.W.findIn K (.ref C) "widest" = some (some (.ref fV))) (iV : PySem.W.isFn K (.ref fV) = true)
    (lV : K.lookup fV = some ⟨ocV, odV, .func (PySem.W.fnOf "widest" "Box.widest" (defArgs sWidest) (defBody sWidest) (defScope sWidest) .none kVV dcV pmV anV cdV ctV), slV⟩) (cV : PySem.W.codeIn K cdV "Box.widest" = true) (kV : PySem.W.keepIn K (.ref fV) = true)
    (aH : PySem.W.findIn K (.ref C) "measured" = some (some (.ref fH))) (iH : PySem.W.isFn K (.ref fH) = true)
    (lH : K.lookup fH = some ⟨ocH, odH, .func (PySem.W.fnOf "measured" "Box.measured" (defArgs sMeasured) (defBody sMeasured) (defScope sMeasured) .none kVH dcH pmH anH cdH ctH), slH⟩) (cH : PySem.W.codeIn K cdH "Box.measured" = true) (kH : PySem.W.keepIn K (.ref fH) = true)
    (aF : PySem.W.findIn K (.ref C) "first_too_far" = some (some (.ref fF))) (iF : PySem.W.isFn K (.ref fF) = true)
    (lF : K.lookup fF = some ⟨ocF, odF, .func (PySem.W.fnOf "first_too_far" "Box.first_too_far" (defArgs sFar) (defBody sFar) (defScope sFar) .none kVF dcF pmF anF cdF ctF), slF⟩) (cF : PySem.W.codeIn K cdF "Box.first_too_far" = true) (kF : PySem.W.keepIn K (.ref fF) = true)
    (aA : PySem.W.findIn K (.ref C) "first_told_again" = some (some (.ref fA))) (iA : PySem.W.isFn K (.ref fA) = true)
    (lA : K.lookup fA = some ⟨ocA, odA, .func (PySem.W.fnOf "first_told_again" "Box.first_told_again" (defArgs sAgain) (defBody sAgain) (defScope sAgain) .none kVA dcA pmA anA cdA ctA), slA⟩) (cA : PySem.W.codeIn K cdA "Box.first_told_again" = true) (kA : PySem.W.keepIn K (.ref fA) = true)
    (aT : PySem.W.findIn K (.ref C) "plans" = some (some (.ref fT))) (iT : PySem.W.isFn K (.ref fT) = true)
    (lT : K.lookup fT = some ⟨ocT, odT, .func (PySem.W.fnOf "plans" "Box.plans" (defArgs sPlans) (defBody sPlans) (defScope sPlans) .none kVT dcT pmT anT cdT ctT), slT⟩) (cT : PySem.W.codeIn K cdT "Box.plans" = true) (kT : PySem.W.keepIn K (.ref fT) = true)
    (aX : PySem.W.findIn K (.ref C) "choices" = some (some (.ref fX))) (iX : PySem.W.isFn K (.ref fX) = true)
    (lX : K.lookup fX = some ⟨ocX, odX, .func (PySem.W.fnOf "choices" "Box.choices" (defArgs sChoices) (defBody sChoices) (defScope sChoices) .none kVX dcX pmX anX cdX ctX), slX⟩) (cX : PySem.W.codeIn K cdX "Box.choices" = true) (kX : PySem.W.keepIn K (.ref fX) = true)
    (aY : PySem.W.findIn K (.ref C) "from_the_smallest_on" = some (some (.ref fY))) (iY : PySem.W.isFn K (.ref fY) = true)
    (lY : K.lookup fY = some ⟨ocY, odY, .func (PySem.W.fnOf "from_the_smallest_on" "Box.from_the_smallest_on" (defArgs sSmallest) (defBody sSmallest) (defScope sSmallest) .none kVY dcY pmY anY cdY ctY), slY⟩) (cY : PySem.W.codeIn K cdY "Box.from_the_smallest_on" = true) (kY : PySem.W.keepIn K (.ref fY) = true)
    (aU : PySem.W.nsIn K mainGlobals "put_in" = some (some (.ref fU)))
    (lU : K.lookup fU = some ⟨ocU, odU, .func (PySem.W.fnOf "put_in" "put_in" (defArgs sPut) (defBody sPut) (defScope sPut) .none kVU dcU pmU anU cdU ctU), slU⟩) (cU : PySem.W.codeIn K cdU "put_in" = true) (kU : PySem.W.keepIn K (.ref fU) = true)
    (aZ : PySem.W.nsIn K mainGlobals "by_size" = some (some (.ref fZ)))
    (lZ : K.lookup fZ = some ⟨ocZ, odZ, .func (PySem.W.fnOf "by_size" "by_size" (defArgs sBySize) (defBody sBySize) (defScope sBySize) .none kVZ dcZ pmZ anZ (.ref zc) ctZ), slZ⟩) (cZ : PySem.W.codeIn K (.ref zc) "by_size" = true) (kZ : PySem.W.keepIn K (.ref fZ) = true)
    (aO : PySem.W.nsIn K mainGlobals "answer_one" = some (some (.ref fO)))
    (lO : K.lookup fO = some ⟨ocO, odO, .func (PySem.W.fnOf "answer_one" "answer_one" (defArgs sOne) (defBody sOne) (defScope sOne) .none kVO dcO pmO anO cdO ctO), slO⟩) (cO : PySem.W.codeIn K cdO "answer_one" = true) (kO : PySem.W.keepIn K (.ref fO) = true)
    (aS : PySem.W.nsIn K mainGlobals "answers" = some (some (.ref fS)))
    (lS : K.lookup fS = some ⟨ocS, odS, .func (PySem.W.fnOf "answers" "answers" (defArgs sAns) (defBody sAns) (defScope sAns) .none kVS dcS pmS anS cdS ctS), slS⟩) (cS : PySem.W.codeIn K cdS "answers" = true) (kS : PySem.W.keepIn K (.ref fS) = true)
    (pg : PySem.W.plainGet K C Str.empty = true) (hd : PySem.W.hasDictIn K C = true) (po : PySem.W.plainOver K C = true) (sa : PySem.W.findIn K (.ref C) "__setattr__" = some (some (.builtin "object.__setattr__"))) (mk : PySem.W.makesIn K C = true) (kc : PySem.W.keepIn K (.ref C) = true)
    (n0 : PySem.W.findIn K (.ref C) "lefts" = some none)
    (n1 : PySem.W.findIn K (.ref C) "rights" = some none)
    (n2 : PySem.W.findIn K (.ref C) "differ" = some none)
    {t0 : Tok} (cst0 : PySem.W.nsIn K mainGlobals "LARGEST" = some (some (.int 1000 t0)))
    {t1 : Tok} (cst1 : PySem.W.nsIn K mainGlobals "MOST_ON_A_SIDE" = some (some (.int 5 t1)))
    (blt0 : PySem.W.nsIn K mainGlobals "len" = some none)
    (blt1 : PySem.W.nsIn K mainGlobals "max" = some none)
    (blt2 : PySem.W.nsIn K mainGlobals "sum" = some none)
    (blt3 : PySem.W.nsIn K mainGlobals "abs" = some none)
    (blt4 : PySem.W.nsIn K mainGlobals "enumerate" = some none)
    (blt5 : PySem.W.nsIn K mainGlobals "min" = some none)
    (blt6 : PySem.W.nsIn K mainGlobals "sorted" = some none)
    (blt7 : PySem.W.nsIn K mainGlobals "range" = some none)
    : ∃ fd : FuncData, (∀ (s : Shared) (us : List Value), us.length = (["calls"] : List Str).length → BindsTo s fd ⟨us, []⟩ ((["calls"] : List Str).zip us)) ∧ ∀ base : Heap, K.In base → base.Ns mainGlobals mg → TabB base mg zc zt → FnOk P w K mg base CX0 7 fa fd ["calls"] (spAns K zt) := by
  have e := hfa.symm.trans (PySem.W.mg_of X G aS)
  cases e
  have T : Txt K mg C := ⟨⟨pg, hd, po, sa⟩, n0, n1, n2, PySem.W.mg_of X G aC, ⟨_, PySem.W.mg_of X G cst0⟩, ⟨_, PySem.W.mg_of X G cst1⟩, PySem.W.mg_none_of X G blt0, PySem.W.mg_none_of X G blt1, PySem.W.mg_none_of X G blt2, PySem.W.mg_none_of X G blt3, PySem.W.mg_none_of X G blt4, PySem.W.mg_none_of X G blt5, PySem.W.mg_none_of X G blt6, PySem.W.mg_none_of X G blt7⟩
  have FI := fun_mk (st := sInit) lI cI kI
  have yI := FI.binds (ps := ["self"]) fun _ _ _ _ _ _ us hl => match us, hl with | [_], _ => rfl
  have mI : Meth K C "__init__" fI := ⟨aI, iI, kI⟩
  have MI : M1 K C "__init__" "Box.__init__" sInit ["self"] fI _ := ⟨FI, yI, mI⟩
  have FB := fun_mk (st := sBegins) lB cB kB
  have yB := FB.binds (ps := ["self", "differ"]) fun _ _ _ _ _ _ us hl => match us, hl with | [_, _], _ => rfl
  have mB : Meth K C "begins" fB := ⟨aB, iB, kB⟩
  have MB : M1 K C "begins" "Box.begins" sBegins ["self", "differ"] fB _ := ⟨FB, yB, mB⟩
  have FL := fun_mk (st := sLeft) lL cL kL
  have yL := FL.binds (ps := ["self", "size"]) fun _ _ _ _ _ _ us hl => match us, hl with | [_, _], _ => rfl
  have mL : Meth K C "left" fL := ⟨aL, iL, kL⟩
  have ML : M1 K C "left" "Box.left" sLeft ["self", "size"] fL _ := ⟨FL, yL, mL⟩
  have FR := fun_mk (st := sRight) lR cR kR
  have yR := FR.binds (ps := ["self", "size"]) fun _ _ _ _ _ _ us hl => match us, hl with | [_, _], _ => rfl
  have mR : Meth K C "right" fR := ⟨aR, iR, kR⟩
  have MR : M1 K C "right" "Box.right" sRight ["self", "size"] fR _ := ⟨FR, yR, mR⟩
  have FK := fun_mk (st := sCheck) lK cK kK
  have yK := FK.binds (ps := ["self", "plan"]) fun _ _ _ _ _ _ us hl => match us, hl with | [_, _], _ => rfl
  have mK : Meth K C "check" fK := ⟨aK, iK, kK⟩
  have MK : M1 K C "check" "Box.check" sCheck ["self", "plan"] fK _ := ⟨FK, yK, mK⟩
  have FE := fun_mk (st := sBest) lE cE kE
  have yE := FE.binds (ps := ["self"]) fun _ _ _ _ _ _ us hl => match us, hl with | [_], _ => rfl
  have mE : Meth K C "best" fE := ⟨aE, iE, kE⟩
  have ME : M1 K C "best" "Box.best" sBest ["self"] fE _ := ⟨FE, yE, mE⟩
  have FN := fun_mk (st := sPlain) lN cN kN
  have yN := FN.binds (ps := ["self"]) fun _ _ _ _ _ _ us hl => match us, hl with | [_], _ => rfl
  have mN : Meth K C "plain" fN := ⟨aN, iN, kN⟩
  have MN : M1 K C "plain" "Box.plain" sPlain ["self"] fN _ := ⟨FN, yN, mN⟩
  have FD := fun_mk (st := sNeeds) lD cD kD
  have yD := FD.binds (ps := ["self", "pairs"]) fun _ _ _ _ _ _ us hl => match us, hl with | [_, _], _ => rfl
  have mD : Meth K C "needs" fD := ⟨aD, iD, kD⟩
  have MD : M1 K C "needs" "Box.needs" sNeeds ["self", "pairs"] fD _ := ⟨FD, yD, mD⟩
  have FQ := fun_mk (st := sIsPlan) lQ cQ kQ
  have yQ := FQ.binds (ps := ["self", "plan"]) fun _ _ _ _ _ _ us hl => match us, hl with | [_, _], _ => rfl
  have mQ : Meth K C "is_plan" fQ := ⟨aQ, iQ, kQ⟩
  have MQ : M1 K C "is_plan" "Box.is_plan" sIsPlan ["self", "plan"] fQ _ := ⟨FQ, yQ, mQ⟩
  have FP := fun_mk (st := sPaired) lP cP kP
  have yP := FP.binds (ps := ["self", "plan"]) fun _ _ _ _ _ _ us hl => match us, hl with | [_, _], _ => rfl
  have mP : Meth K C "paired" fP := ⟨aP, iP, kP⟩
  have MP : M1 K C "paired" "Box.paired" sPaired ["self", "plan"] fP _ := ⟨FP, yP, mP⟩
  have FG := fun_mk (st := sGap) lG cG kG
  have yG := FG.binds (ps := ["self", "left", "right"]) fun _ _ _ _ _ _ us hl => match us, hl with | [_, _, _], _ => rfl
  have mG : Meth K C "gap" fG := ⟨aG, iG, kG⟩
  have MG : M1 K C "gap" "Box.gap" sGap ["self", "left", "right"] fG _ := ⟨FG, yG, mG⟩
  have FJ := fun_mk (st := sGaps) lJ cJ kJ
  have yJ := FJ.binds (ps := ["self", "plan"]) fun _ _ _ _ _ _ us hl => match us, hl with | [_, _], _ => rfl
  have mJ : Meth K C "gaps" fJ := ⟨aJ, iJ, kJ⟩
  have MJ : M1 K C "gaps" "Box.gaps" sGaps ["self", "plan"] fJ _ := ⟨FJ, yJ, mJ⟩
  have FM := fun_mk (st := sPairsOf) lM cM kM
  have yM := FM.binds (ps := ["self", "plan"]) fun _ _ _ _ _ _ us hl => match us, hl with | [_, _], _ => rfl
  have mM : Meth K C "pairs_of" fM := ⟨aM, iM, kM⟩
  have MM : M1 K C "pairs_of" "Box.pairs_of" sPairsOf ["self", "plan"] fM _ := ⟨FM, yM, mM⟩
  have FW := fun_mk (st := sOff) lW cW kW
  have yW := FW.binds (ps := ["self", "plan"]) fun _ _ _ _ _ _ us hl => match us, hl with | [_, _], _ => rfl
  have mW : Meth K C "off" fW := ⟨aW, iW, kW⟩
  have MW : M1 K C "off" "Box.off" sOff ["self", "plan"] fW _ := ⟨FW, yW, mW⟩
  have FV := fun_mk (st := sWidest) lV cV kV
  have yV := FV.binds (ps := ["self", "plan"]) fun _ _ _ _ _ _ us hl => match us, hl with | [_, _], _ => rfl
  have mV : Meth K C "widest" fV := ⟨aV, iV, kV⟩
  have MV : M1 K C "widest" "Box.widest" sWidest ["self", "plan"] fV _ := ⟨FV, yV, mV⟩
  have FH := fun_mk (st := sMeasured) lH cH kH
  have yH := FH.binds (ps := ["self", "plan"]) fun _ _ _ _ _ _ us hl => match us, hl with | [_, _], _ => rfl
  have mH : Meth K C "measured" fH := ⟨aH, iH, kH⟩
  have MH : M1 K C "measured" "Box.measured" sMeasured ["self", "plan"] fH _ := ⟨FH, yH, mH⟩
  have FF := fun_mk (st := sFar) lF cF kF
  have yF := FF.binds (ps := ["self", "plan"]) fun _ _ _ _ _ _ us hl => match us, hl with | [_, _], _ => rfl
  have mF : Meth K C "first_too_far" fF := ⟨aF, iF, kF⟩
  have MF : M1 K C "first_too_far" "Box.first_too_far" sFar ["self", "plan"] fF _ := ⟨FF, yF, mF⟩
  have FA := fun_mk (st := sAgain) lA cA kA
  have yA := FA.binds (ps := ["self", "plan"]) fun _ _ _ _ _ _ us hl => match us, hl with | [_, _], _ => rfl
  have mA : Meth K C "first_told_again" fA := ⟨aA, iA, kA⟩
  have MA : M1 K C "first_told_again" "Box.first_told_again" sAgain ["self", "plan"] fA _ := ⟨FA, yA, mA⟩
  have FT := fun_mk (st := sPlans) lT cT kT
  have yT := FT.binds (ps := ["self", "differ"]) fun _ _ _ _ _ _ us hl => match us, hl with | [_, _], _ => rfl
  have mT : Meth K C "plans" fT := ⟨aT, iT, kT⟩
  have MT : M1 K C "plans" "Box.plans" sPlans ["self", "differ"] fT _ := ⟨FT, yT, mT⟩
  have FX := fun_mk (st := sChoices) lX cX kX
  have yX := FX.binds (ps := ["self", "left", "plan", "differ"]) fun _ _ _ _ _ _ us hl => match us, hl with | [_, _, _, _], _ => rfl
  have mX : Meth K C "choices" fX := ⟨aX, iX, kX⟩
  have MX : M1 K C "choices" "Box.choices" sChoices ["self", "left", "plan", "differ"] fX _ := ⟨FX, yX, mX⟩
  have FY := fun_mk (st := sSmallest) lY cY kY
  have yY := FY.binds (ps := ["self"]) fun _ _ _ _ _ _ us hl => match us, hl with | [_], _ => rfl
  have mY : Meth K C "from_the_smallest_on" fY := ⟨aY, iY, kY⟩
  have MY : M1 K C "from_the_smallest_on" "Box.from_the_smallest_on" sSmallest ["self"] fY _ := ⟨FY, yY, mY⟩
  have FU := fun_mk (st := sPut) lU cU kU
  have yU := FU.binds (ps := ["side", "size"]) fun _ _ _ _ _ _ us hl => match us, hl with | [_, _], _ => rfl
  have hU := PySem.W.mg_of X G aU
  have FZ := fun_mk (st := sBySize) lZ cZ kZ
  have yZ := FZ.binds (ps := ["side"]) fun _ _ _ _ _ _ us hl => match us, hl with | [_], _ => rfl
  have hZ := PySem.W.mg_of X G aZ
  have FO := fun_mk (st := sOne) lO cO kO
  have yO := FO.binds (ps := ["box", "call", "given"]) fun _ _ _ _ _ _ us hl => match us, hl with | [_, _, _], _ => rfl
  have hO := PySem.W.mg_of X G aO
  have FS := fun_mk (st := sAns) lS cS kS
  have yS := FS.binds (ps := ["calls"]) fun _ _ _ _ _ _ us hl => match us, hl with | [_], _ => rfl
  have hS := PySem.W.mg_of X G aS
  refine ⟨PySem.W.fnOf "answers" "answers" (defArgs sAns) (defBody sAns) (defScope sAns) .none kVS dcS pmS anS cdS ctS, fun s us hu => match us, hu with | [_], _ => .of_eq rfl, fun base _ _ TB => ?_⟩
  have GZ : FnOk P w K mg base CX0 2 fZ _ ["side"] (spBySize zt) := ok_bySize lZ cZ T TB
  have GY : FnOk P w K mg base CX0 3 fY _ ["self"] (spSmallest C zt) := ok_smallest FY T MG GZ FZ.kp yZ hZ
  have GN : FnOk P w K mg base CX0 5 fN _ ["self"] (spPlain C zt) := ok_plain FN T MP MG MJ MM MW MH GY yY mY
  have GE : FnOk P w K mg base CX0 4 fE _ ["self"] (spBest C) := ok_best FE T MP MG MX MJ MM MW MT
  have GD : FnOk P w K mg base CX0 4 fD _ ["self", "pairs"] (spNeeds C) := ok_needs FD T MP MG MX MJ MM MV MT
  have GK : FnOk P w K mg base CX0 5 fK _ ["self", "plan"] (spCheck K C) := ok_check FK T MQ MP MG MF MA MJ MM MW MH
  have GB : FnOk P w K mg base CX0 1 fB _ ["self", "differ"] (spBegins C) := ok_begins FB T
  have GL : FnOk P w K mg base CX0 2 fL _ ["self", "size"] (spLeft C) := ok_left FL T FU yU hU
  have GR : FnOk P w K mg base CX0 2 fR _ ["self", "size"] (spRight C) := ok_right FR T FU yU hU
  have GO : FnOk P w K mg base CX0 6 fO _ ["box", "call", "given"] (spOne K C zt) := ok_one FO T GB yB mB GL yL mL GR yR mR GK yK mK GE yE mE GN yN mN GD yD mD
  exact ok_ans FS T ⟨mk, aI, iI, kc⟩ FI yI FO.kp yO hO GO
end Gp
open PySem PySem.W PyProof.Rows
set_option maxRecDepth 100000 in
set_option maxHeartbeats 0 in
theorem PySem.Challenge.cw_glovepairs_s01_answers_holds : PySem.Challenge.rw_glovepairs_s01_answers.Holds := by
  w_on; k_headS; (case hw => exact ⟨[.list [.int 5, .int 0, .int 0]], by decide +kernel, by decide +kernel⟩)
  k_fillS
  refine Gp.walk_tab (r := PySem.Challenge.rw_glovepairs_s01_answers) (k := 7) (ps := ["calls"]) (c := 176) (PT := 172) (x := "by_size") (sp := fun K => Gp.spAns K 172) (by decide +kernel) rfl ⟨rfl, by decide, by decide⟩ (fun w h Y => PySem.W.kIn_of Y) rfl (fun p => by kernel_rfl) (fun p => by kernel_rfl) ?F ?S
  case F =>
    intro w mg fa h Y KX G hmg
    refine' Gp.all_mk KX G hmg ?aC ?aI ?iI ?lI ?cI ?kI ?aB ?iB ?lB ?cB ?kB ?aL ?iL ?lL ?cL ?kL ?aR ?iR ?lR ?cR ?kR ?aK ?iK ?lK ?cK ?kK ?aE ?iE ?lE ?cE ?kE ?aN ?iN ?lN ?cN ?kN ?aD ?iD ?lD ?cD ?kD ?aQ ?iQ ?lQ ?cQ ?kQ ?aP ?iP ?lP ?cP ?kP ?aG ?iG ?lG ?cG ?kG ?aJ ?iJ ?lJ ?cJ ?kJ ?aM ?iM ?lM ?cM ?kM ?aW ?iW ?lW ?cW ?kW ?aV ?iV ?lV ?cV ?kV ?aH ?iH ?lH ?cH ?kH ?aF ?iF ?lF ?cF ?kF ?aA ?iA ?lA ?cA ?kA ?aT ?iT ?lT ?cT ?kT ?aX ?iX ?lX ?cX ?kX ?aY ?iY ?lY ?cY ?kY ?aU ?lU ?cU ?kU ?aZ ?lZ ?cZ ?kZ ?aO ?lO ?cO ?kO ?aS ?lS ?cS ?kS ?pg ?hd ?po ?sa ?mk ?kc ?n0 ?n1 ?n2 ?cst0 ?cst1 ?blt0 ?blt1 ?blt2 ?blt3 ?blt4 ?blt5 ?blt6 ?blt7
    (case aC => k_is); (case aI => k_is); (case iI => k_is); (case lI => k_is); (case cI => k_is); (case kI => k_is)
    (case aB => k_is); (case iB => k_is); (case lB => k_is); (case cB => k_is); (case kB => k_is); (case aL => k_is)
    (case iL => k_is); (case lL => k_is); (case cL => k_is); (case kL => k_is); (case aR => k_is); (case iR => k_is)
    (case lR => k_is); (case cR => k_is); (case kR => k_is); (case aK => k_is); (case iK => k_is); (case lK => k_is)
    (case cK => k_is); (case kK => k_is); (case aE => k_is); (case iE => k_is); (case lE => k_is); (case cE => k_is)
    (case kE => k_is); (case aN => k_is); (case iN => k_is); (case lN => k_is); (case cN => k_is); (case kN => k_is)
    (case aD => k_is); (case iD => k_is); (case lD => k_is); (case cD => k_is); (case kD => k_is); (case aQ => k_is)
    (case iQ => k_is); (case lQ => k_is); (case cQ => k_is); (case kQ => k_is); (case aP => k_is); (case iP => k_is)
    (case lP => k_is); (case cP => k_is); (case kP => k_is); (case aG => k_is); (case iG => k_is); (case lG => k_is)
    (case cG => k_is); (case kG => k_is); (case aJ => k_is); (case iJ => k_is); (case lJ => k_is); (case cJ => k_is)
    (case kJ => k_is); (case aM => k_is); (case iM => k_is); (case lM => k_is); (case cM => k_is); (case kM => k_is)
    (case aW => k_is); (case iW => k_is); (case lW => k_is); (case cW => k_is); (case kW => k_is); (case aV => k_is)
    (case iV => k_is); (case lV => k_is); (case cV => k_is); (case kV => k_is); (case aH => k_is); (case iH => k_is)
    (case lH => k_is); (case cH => k_is); (case kH => k_is); (case aF => k_is); (case iF => k_is); (case lF => k_is)
    (case cF => k_is); (case kF => k_is); (case aA => k_is); (case iA => k_is); (case lA => k_is); (case cA => k_is)
    (case kA => k_is); (case aT => k_is); (case iT => k_is); (case lT => k_is); (case cT => k_is); (case kT => k_is)
    (case aX => k_is); (case iX => k_is); (case lX => k_is); (case cX => k_is); (case kX => k_is); (case aY => k_is)
    (case iY => k_is); (case lY => k_is); (case cY => k_is); (case kY => k_is); (case aU => k_is); (case lU => k_is)
    (case cU => k_is); (case kU => k_is); (case aZ => k_is); (case lZ => k_is); (case cZ => k_is); (case kZ => k_is)
    (case aO => k_is); (case lO => k_is); (case cO => k_is); (case kO => k_is); (case aS => k_is); (case lS => k_is)
    (case cS => k_is); (case kS => k_is); (case pg => k_is); (case hd => k_is); (case po => k_is); (case sa => k_is)
    (case mk => k_is); (case kc => k_is); (case n0 => k_is); (case n1 => k_is); (case n2 => k_is); (case cst0 => k_is)
    (case cst1 => k_is); (case blt0 => k_is); (case blt1 => k_is); (case blt2 => k_is); (case blt3 => k_is); (case blt4 => k_is)
    (case blt5 => k_is); (case blt6 => k_is); (case blt7 => k_is)
  case S =>
    intro K H xs a hn hwi hask hx
    cases hx with
    | cons h1 h2 =>
      cases h2
      cases h1 with
      | lst hs ha =>
        have e := L2.ints_dw a.1 _ ha
        subst e
        exact ⟨_, a.1, rfl, L2.Same.seq (Gp.Same.new hn) hs, LamX.TabS.nil L2.upd_same, hask, fun H' p hp => .lst (L2.SqL.of hp) (L2.dw_ints _)⟩
