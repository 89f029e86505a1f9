import PyProof.Rows.All
import Wide.All
import OpenK.AllK
import Wide.FinOn
import Open.SpecLaws
import KE.OsGo
import KE.DatumOrd
import HandS.ForSpec
import HandS.ForMost
import HandS.Deep
import HandS.Walk
import HandS.SortKw
import HandS.Conv
import HandS.Flt
import HandS.Zip
import HandS.More
import HandS.TupAny
import PySem.Challenge.RW_wordcounts_s01_answers
set_option Elab.async false
set_option maxRecDepth 100000
set_option maxHeartbeats 4000000
namespace Wc
open Ut10 (St Sent File Band)
/-- a number of the request as the specification has it -/
abbrev U32 (z : Int) : Prop := 0 ≤ z ∧ z ≤ 4294967295
theorem nat_of {z : Int} (h : U32 z) : Ut10Neutral.nat z = true := by
  unfold Ut10Neutral.nat
  have h1 : z < 2 ^ 32 := by have := h.2; omega
  rw [decide_eq_true h.1, decide_eq_true h1]; rfl
theorem toNat_cast {z : Int} (h : U32 z) : ((z.toNat : Nat) : Int) = z := Int.toNat_of_nonneg h.1
theorem map_cast : ∀ {l : List Int}, (∀ z ∈ l, U32 z) → (l.map Int.toNat).map (fun n : Nat => (n : Int)) = l
  | [], _ => rfl
  | z :: l, h => by
    rw [List.map_cons, List.map_cons, toNat_cast (h z (List.mem_cons_self ..)), map_cast fun y hy => h y (List.mem_cons_of_mem _ hy)]
theorem all_nat {l : List Int} (h : ∀ z ∈ l, U32 z) : l.all Ut10Neutral.nat = true := by
  rw [List.all_eq_true]
  exact fun z hz => nat_of (h z hz)
theorem callOf_nat {l : List Int} (h : ∀ z ∈ l, U32 z) : Ut10Neutral.callOf l = Ut10Neutral.callIn (l.map Int.toNat) := by
  unfold Ut10Neutral.callOf
  rw [all_nat h, if_neg (by decide)]
/-- a row read off the front -/
theorem row_some {r x t : List Int} (h : PyFlat.row r = some (x, t)) : ∃ (n : Nat), r = (n : Int) :: (x ++ t) ∧ x.length = n := by
  match r, h with
  | n :: r, h =>
    have h : (if 0 ≤ n ∧ n.toNat ≤ r.length then some (r.take n.toNat, r.drop n.toNat) else none) = some (x, t) := h
    by_cases c : 0 ≤ n ∧ n.toNat ≤ r.length
    · rw [if_pos c] at h
      cases h
      refine ⟨n.toNat, ?_, ?_⟩
      · rw [List.take_append_drop, Int.toNat_of_nonneg c.1]
      · rw [List.length_take]; omega
    · rw [if_neg c] at h
      cases h
theorem rows_one {r : List Int} {xs : List (List Int)} {t : List Int} (h : PyFlat.rows 1 r = some (xs, t)) : ∃ x, xs = [x] ∧ PyFlat.row r = some (x, t) := by
  unfold PyFlat.rows at h
  cases e : PyFlat.row r with
  | none => rw [e] at h; cases h
  | some y =>
    rw [e] at h
    obtain ⟨x, s⟩ := y
    simp only [PyFlat.rows] at h
    cases h
    exact ⟨x, rfl, rfl⟩
/-- the ten forms of a call, as they lie in the list: what is read (its place, then its numbers, then a row with its length), what is left, and the call by its rows -/
inductive Form : List Int → List (List Int) → List Int → Prop
  | row (p : Int) (x t : List Int) : p = 0 ∨ p = 2 ∨ p = 5 ∨ p = 6 ∨ p = 8 → Form (p :: (x.length : Int) :: (x ++ t)) [[p], x] t
  | num (p a : Int) (t : List Int) : p = 1 ∨ p = 3 ∨ p = 7 → Form (p :: a :: t) [[p, a]] t
  | rates (a : Int) (x t : List Int) : Form (4 :: a :: (x.length : Int) :: (x ++ t)) [[4, a], x] t
  | shows (t : List Int) : Form (9 :: t) [[9]] t
theorem call_form {l : List Int} {c : List (List Int)} {t : List Int} (h : PyFlat.call PyUt10.shape l = some (c, t)) : Form l c t := by
  match l, h with
  | p :: r, h =>
    unfold PyFlat.call at h
    have row1 : ∀ p : Int, PyUt10.shape p = some (0, 1) → (p = 0 ∨ p = 2 ∨ p = 5 ∨ p = 6 ∨ p = 8) → PyFlat.call PyUt10.shape (p :: r) = some (c, t) → Form (p :: r) c t := by
      intro p hp hq h
      unfold PyFlat.call at h
      simp only [hp] at h
      rw [if_neg (by omega)] at h
      cases e : PyFlat.rows 1 (r.drop 0) with
      | none => rw [e] at h; cases h
      | some y =>
        rw [e] at h
        obtain ⟨xs, s⟩ := y
        simp only [List.take_zero] at h
        cases h
        obtain ⟨x, rfl, hx⟩ := rows_one e
        obtain ⟨n, hn, hl⟩ := row_some hx
        rw [List.drop_zero] at hn
        subst hn hl
        exact .row p x t hq
    have num1 : ∀ p : Int, PyUt10.shape p = some (1, 0) → (p = 1 ∨ p = 3 ∨ p = 7) → PyFlat.call PyUt10.shape (p :: r) = some (c, t) → Form (p :: r) c t := by
      intro p hp hq h
      unfold PyFlat.call at h
      simp only [hp] at h
      match r, h with
      | [], h => simp at h
      | a :: r, h =>
        rw [if_neg (by simp)] at h
        simp only [PyFlat.rows, List.drop_succ_cons, List.drop_zero, List.take_succ_cons, List.take_zero] at h
        cases h
        exact .num p a _ hq
    by_cases h0 : p = 0
    · exact row1 p (by subst h0; rfl) (by omega) h
    by_cases h1 : p = 1
    · exact num1 p (by subst h1; rfl) (by omega) h
    by_cases h2 : p = 2
    · exact row1 p (by subst h2; rfl) (by omega) h
    by_cases h3 : p = 3
    · exact num1 p (by subst h3; rfl) (by omega) h
    by_cases h4 : p = 4
    · subst h4
      have hp : PyUt10.shape 4 = some (1, 1) := rfl
      simp only [hp] at h
      match r, h with
      | [], h => simp at h
      | a :: r, h =>
        rw [if_neg (by simp)] at h
        simp only [List.drop_succ_cons, List.drop_zero, List.take_succ_cons, List.take_zero] at h
        cases e : PyFlat.rows 1 r with
        | none => rw [e] at h; cases h
        | some y =>
          rw [e] at h
          obtain ⟨xs, s⟩ := y
          cases h
          obtain ⟨x, rfl, hx⟩ := rows_one e
          obtain ⟨n, hn, hl⟩ := row_some hx
          subst hn hl
          exact .rates a x t
    by_cases h5 : p = 5
    · exact row1 p (by subst h5; rfl) (by omega) h
    by_cases h6 : p = 6
    · exact row1 p (by subst h6; rfl) (by omega) h
    by_cases h7 : p = 7
    · exact num1 p (by subst h7; rfl) (by omega) h
    by_cases h8 : p = 8
    · exact row1 p (by subst h8; rfl) (by omega) h
    by_cases h9 : p = 9
    · subst h9
      have hp : PyUt10.shape 9 = some (0, 0) := rfl
      simp only [hp] at h
      rw [if_neg (by omega)] at h
      simp only [PyFlat.rows, List.drop_zero, List.take_zero] at h
      cases h
      exact .shows t
    · have hp : PyUt10.shape p = none := by
        unfold PyUt10.shape
        simp only [h0, h1, h2, h3, h4, h5, h6, h7, h8, h9, if_false]
      simp only [hp] at h
      cases h
/-! ### the machine over the list -/
/-- one call of the list, as the specification's machine takes it -/
def headOf (c : List (List Int)) : List Int := (PyUt10.whole c).headD []
def stepR (s : St) (c : List (List Int)) : St × List Int := Ut10Neutral.step s (headOf c)
/-- what the specification answers to the calls that are left, from a state -/
def rest (s : St) (raw : List (List (List Int))) : List Int := PyFlat.told (PyFlat.played (fun s c => Ut10Neutral.step s (c.headD [])) s (raw.map PyUt10.whole))
theorem rest_nil (s : St) : rest s [] = [] := rfl
theorem rest_cons (s : St) (c : List (List Int)) (raw : List (List (List Int))) : rest s (c :: raw) = ((stepR s c).2.length : Int) :: ((stepR s c).2 ++ rest (stepR s c).1 raw) := rfl
/-- a call is asked: its numbers within what the document tells, and the specification reads it -/
def askedR (c : List (List Int)) : Prop := PyInside.call PyUt10.bound c = true ∧ (Ut10Neutral.callOf (headOf c)).isSome = true
/-- the list that is left, with its calls -/
inductive Left : List Int → List (List (List Int)) → Prop
  | nil : Left [] []
  | cons {l t : List Int} {c : List (List Int)} {raw : List (List (List Int))} : Form l c t → askedR c → Left t raw → Left l (c :: raw)
theorem left_of : ∀ (f : Nat) (l : List Int) (raw : List (List (List Int))), PyFlat.calls PyUt10.shape f l = some raw → (∀ c ∈ raw, askedR c) → Left l raw
  | f, [], raw, h, _ => by
    have h : some [] = some raw := by cases f <;> exact h
    cases h
    exact .nil
  | 0, _ :: _, _, h, _ => by cases h
  | f + 1, p :: r, raw, h, ha => by
    have h : (match PyFlat.call PyUt10.shape (p :: r) with
      | none => none
      | some (c, t) => match PyFlat.calls PyUt10.shape f t with
        | none => none
        | some cs => some (c :: cs)) = some raw := h
    cases e : PyFlat.call PyUt10.shape (p :: r) with
    | none => rw [e] at h; cases h
    | some y =>
      obtain ⟨c, t⟩ := y
      rw [e] at h
      simp only [] at h
      cases e2 : PyFlat.calls PyUt10.shape f t with
      | none => rw [e2] at h; cases h
      | some cs =>
        rw [e2] at h
        cases h
        exact .cons (call_form e) (ha c (List.mem_cons_self ..)) (left_of f t cs e2 fun d hd => ha d (List.mem_cons_of_mem _ hd))
/-- what is asked of a list, taken apart -/
theorem asked_left {l : List Int} (h : PyUt10.answers_asked l = true) : ∃ raw, Left l raw ∧ raw ≠ [] ∧ raw.length ≤ 30 ∧ PyUt10.answers l = rest Ut10Neutral.start raw ∧ (PyUt10.answers l).length ≤ 10000000 := by
  unfold PyUt10.answers_asked at h
  cases e : PyFlat.calls PyUt10.shape l.length l with
  | none => rw [e] at h; cases h
  | some raw =>
    rw [e] at h
    simp only [Bool.and_eq_true] at h
    obtain ⟨⟨⟨⟨h1, h2⟩, h3⟩, h4⟩, h5⟩ := h
    refine ⟨raw, left_of _ _ _ e ?_, ?_, ?_, ?_, ?_⟩
    · intro c hc
      refine ⟨List.all_eq_true.mp h3 c hc, ?_⟩
      unfold Ut10Neutral.asked at h4
      rw [Bool.and_eq_true] at h4
      exact List.all_eq_true.mp h4.1 _ (List.mem_map.mpr ⟨_, List.mem_map.mpr ⟨c, hc, rfl⟩, rfl⟩)
    · intro z; subst z; cases h1
    · exact of_decide_eq_true h2
    · unfold PyUt10.answers PyUt10.calls
      rw [e]
      rfl
    · exact of_decide_eq_true h5
theorem u32_of {z : Int} (h : PyInside.within 0 4294967295 z = true) : U32 z := by
  unfold PyInside.within at h
  rw [Bool.and_eq_true] at h
  exact ⟨of_decide_eq_true h.1, of_decide_eq_true h.2⟩
theorem sentsIn_succ (f : Nat) (l : List Nat) (h : l ≠ []) : Ut10Neutral.sentsIn (f + 1) l = (Ut10Neutral.sentIn l).bind fun x => (Ut10Neutral.sentsIn f x.2).map fun y => x.1 :: y := by
  cases l with
  | nil => exact absurd rfl h
  | cons n l => rfl
theorem asked_file {x : List Int} (h : askedR [[0], x]) : (∀ z ∈ x, U32 z) ∧ x.length ≤ 120 ∧ ∃ ss, Ut10Neutral.sentsIn (x.length + 1) (x.map Int.toNat) = some ss ∧ ∀ s, stepR s [[0], x] = Ut10.step s (.file ss) := by
  obtain ⟨h1, h2⟩ := h
  have h1 : ((decide (0 ≤ x.length) && decide (x.length ≤ 120) && x.all (PyInside.within 0 4294967295)) && true) = true := h1
  simp only [Bool.and_eq_true, decide_eq_true_eq] at h1
  have hu : ∀ z ∈ x, U32 z := fun z hz => u32_of (List.all_eq_true.mp h1.1.2 z hz)
  have e : Ut10Neutral.callOf (headOf [[0], x]) = (Ut10Neutral.sentsIn ((x.map Int.toNat).length + 1) (x.map Int.toNat)).map Ut10.Call.file :=
    callOf_nat (l := (0 : Int) :: x) fun z hz => by
      cases hz with
      | head => exact ⟨by decide, by decide⟩
      | tail _ hz => exact hu z hz
  rw [List.length_map] at e
  rw [e] at h2
  cases e2 : Ut10Neutral.sentsIn (x.length + 1) (x.map Int.toNat) with
  | none => rw [e2] at h2; cases h2
  | some ss =>
    refine ⟨hu, h1.1.1.2, ss, rfl, fun s => ?_⟩
    unfold stepR Ut10Neutral.step
    rw [e, e2]
    rfl
theorem asked_memory {x : List Int} (h : askedR [[2], x]) : (∀ z ∈ x, U32 z) ∧ x.length ≤ 260 ∧ ∃ ss, Ut10Neutral.sentsIn (x.length + 1) (x.map Int.toNat) = some ss ∧ ∀ s, stepR s [[2], x] = Ut10.step s (.memory ss) := by
  obtain ⟨h1, h2⟩ := h
  have h1 : ((decide (0 ≤ x.length) && decide (x.length ≤ 260) && x.all (PyInside.within 0 4294967295)) && true) = true := h1
  simp only [Bool.and_eq_true, decide_eq_true_eq] at h1
  have hu : ∀ z ∈ x, U32 z := fun z hz => u32_of (List.all_eq_true.mp h1.1.2 z hz)
  have e : Ut10Neutral.callOf (headOf [[2], x]) = (Ut10Neutral.sentsIn ((x.map Int.toNat).length + 1) (x.map Int.toNat)).map Ut10.Call.memory :=
    callOf_nat (l := (2 : Int) :: x) fun z hz => by
      cases hz with
      | head => exact ⟨by decide, by decide⟩
      | tail _ hz => exact hu z hz
  rw [List.length_map] at e
  rw [e] at h2
  cases e2 : Ut10Neutral.sentsIn (x.length + 1) (x.map Int.toNat) with
  | none => rw [e2] at h2; cases h2
  | some ss =>
    refine ⟨hu, h1.1.1.2, ss, rfl, fun s => ?_⟩
    unfold stepR Ut10Neutral.step
    rw [e, e2]
    rfl
theorem asked_count {x : List Int} (h : askedR [[5], x]) : (∀ z ∈ x, U32 z) ∧ x.length ≤ 10 ∧ ∀ s, stepR s [[5], x] = Ut10.step s (.count (x.map Int.toNat)) := by
  obtain ⟨h1, h2⟩ := h
  have h1 : ((decide (0 ≤ x.length) && decide (x.length ≤ 10) && x.all (PyInside.within 0 4294967295)) && true) = true := h1
  simp only [Bool.and_eq_true, decide_eq_true_eq] at h1
  have hu : ∀ z ∈ x, U32 z := fun z hz => u32_of (List.all_eq_true.mp h1.1.2 z hz)
  have e : Ut10Neutral.callOf (headOf [[5], x]) = some (Ut10.Call.count (x.map Int.toNat)) :=
    callOf_nat (l := (5 : Int) :: x) fun z hz => by
      cases hz with
      | head => exact ⟨by decide, by decide⟩
      | tail _ hz => exact hu z hz
  refine ⟨hu, h1.1.1.2, fun s => ?_⟩
  unfold stepR Ut10Neutral.step
  rw [e]
theorem asked_kinds {x : List Int} (h : askedR [[6], x]) : (∀ z ∈ x, U32 z) ∧ x.length ≤ 10 ∧ ∀ s, stepR s [[6], x] = Ut10.step s (.kinds (x.map Int.toNat)) := by
  obtain ⟨h1, h2⟩ := h
  have h1 : ((decide (0 ≤ x.length) && decide (x.length ≤ 10) && x.all (PyInside.within 0 4294967295)) && true) = true := h1
  simp only [Bool.and_eq_true, decide_eq_true_eq] at h1
  have hu : ∀ z ∈ x, U32 z := fun z hz => u32_of (List.all_eq_true.mp h1.1.2 z hz)
  have e : Ut10Neutral.callOf (headOf [[6], x]) = some (Ut10.Call.kinds (x.map Int.toNat)) :=
    callOf_nat (l := (6 : Int) :: x) fun z hz => by
      cases hz with
      | head => exact ⟨by decide, by decide⟩
      | tail _ hz => exact hu z hz
  refine ⟨hu, h1.1.1.2, fun s => ?_⟩
  unfold stepR Ut10Neutral.step
  rw [e]
theorem asked_gone {a : Int} (h : askedR [[1, a]]) : U32 a ∧ ∀ s, stepR s [[1, a]] = Ut10.step s (.gone a.toNat) := by
  obtain ⟨h1, h2⟩ := h
  have h1 : ((PyInside.within 0 4294967295 a && true) && true) = true := h1
  simp only [Bool.and_eq_true] at h1
  have hu : U32 a := u32_of h1.1.1
  have e : Ut10Neutral.callOf (headOf [[1, a]]) = some (Ut10.Call.gone a.toNat) :=
    callOf_nat (l := [(1 : Int), a]) fun z hz => by
      rcases List.mem_cons.mp hz with rfl | hz
      · exact ⟨by decide, by decide⟩
      · rcases List.mem_cons.mp hz with rfl | hz
        · exact hu
        · cases hz
  refine ⟨hu, fun s => ?_⟩
  unfold stepR Ut10Neutral.step
  rw [e]
theorem asked_done {a : Int} (h : askedR [[3, a]]) : U32 a ∧ ∀ s, stepR s [[3, a]] = Ut10.step s (.done a.toNat) := by
  obtain ⟨h1, h2⟩ := h
  have h1 : ((PyInside.within 0 4294967295 a && true) && true) = true := h1
  simp only [Bool.and_eq_true] at h1
  have hu : U32 a := u32_of h1.1.1
  have e : Ut10Neutral.callOf (headOf [[3, a]]) = some (Ut10.Call.done a.toNat) :=
    callOf_nat (l := [(3 : Int), a]) fun z hz => by
      rcases List.mem_cons.mp hz with rfl | hz
      · exact ⟨by decide, by decide⟩
      · rcases List.mem_cons.mp hz with rfl | hz
        · exact hu
        · cases hz
  refine ⟨hu, fun s => ?_⟩
  unfold stepR Ut10Neutral.step
  rw [e]
theorem asked_part {a : Int} (h : askedR [[7, a]]) : U32 a ∧ ∀ s, stepR s [[7, a]] = Ut10.step s (.part a.toNat) := by
  obtain ⟨h1, h2⟩ := h
  have h1 : ((PyInside.within 0 4294967295 a && true) && true) = true := h1
  simp only [Bool.and_eq_true] at h1
  have hu : U32 a := u32_of h1.1.1
  have e : Ut10Neutral.callOf (headOf [[7, a]]) = some (Ut10.Call.part a.toNat) :=
    callOf_nat (l := [(7 : Int), a]) fun z hz => by
      rcases List.mem_cons.mp hz with rfl | hz
      · exact ⟨by decide, by decide⟩
      · rcases List.mem_cons.mp hz with rfl | hz
        · exact hu
        · cases hz
  refine ⟨hu, fun s => ?_⟩
  unfold stepR Ut10Neutral.step
  rw [e]
theorem asked_rates {a : Int} {x : List Int} (h : askedR [[4, a], x]) : U32 a ∧ (∀ z ∈ x, U32 z) ∧ x.length ≤ 12 ∧ ∃ bs, Ut10Neutral.pairsIn (x.map Int.toNat) = some bs ∧ ∀ s, stepR s [[4, a], x] = Ut10.step s (.rates a.toNat bs) := by
  obtain ⟨h1, h2⟩ := h
  have h1 : ((PyInside.within 0 4294967295 a && true) && ((decide (0 ≤ x.length) && decide (x.length ≤ 12) && x.all (PyInside.within 0 4294967295)) && true)) = true := h1
  simp only [Bool.and_eq_true, decide_eq_true_eq] at h1
  have ha : U32 a := u32_of h1.1.1
  have hu : ∀ z ∈ x, U32 z := fun z hz => u32_of (List.all_eq_true.mp h1.2.1.2 z hz)
  have e : Ut10Neutral.callOf (headOf [[4, a], x]) = (Ut10Neutral.pairsIn (x.map Int.toNat)).map (Ut10.Call.rates a.toNat) :=
    callOf_nat (l := (4 : Int) :: a :: x) fun z hz => by
      rcases List.mem_cons.mp hz with rfl | hz
      · exact ⟨by decide, by decide⟩
      · rcases List.mem_cons.mp hz with rfl | hz
        · exact ha
        · exact hu z hz
  rw [e] at h2
  cases e2 : Ut10Neutral.pairsIn (x.map Int.toNat) with
  | none => rw [e2] at h2; cases h2
  | some bs =>
    refine ⟨ha, hu, h1.2.1.1.2, bs, rfl, fun s => ?_⟩
    unfold stepR Ut10Neutral.step
    rw [e, e2]
    rfl
theorem asked_near {x : List Int} (h : askedR [[8], x]) : (∀ z ∈ x, U32 z) ∧ x.length ≤ 40 ∧ ∃ a b, Ut10Neutral.sentsIn (x.length + 1) (x.map Int.toNat) = some [a, b] ∧ ∀ s, stepR s [[8], x] = Ut10.step s (.near a b) := by
  obtain ⟨h1, h2⟩ := h
  have h1 : ((decide (2 ≤ x.length) && decide (x.length ≤ 40) && x.all (PyInside.within 0 4294967295)) && true) = true := h1
  simp only [Bool.and_eq_true, decide_eq_true_eq] at h1
  have hu : ∀ z ∈ x, U32 z := fun z hz => u32_of (List.all_eq_true.mp h1.1.2 z hz)
  have e : Ut10Neutral.callOf (headOf [[8], x]) = (Ut10Neutral.sentIn (x.map Int.toNat)).bind fun y => (Ut10Neutral.sentIn y.2).bind fun z => if z.2 = [] then some (Ut10.Call.near y.1 z.1) else none :=
    callOf_nat (l := (8 : Int) :: x) fun z hz => by
      cases hz with
      | head => exact ⟨by decide, by decide⟩
      | tail _ hz => exact hu z hz
  have h12 : 1 ≤ x.length := by omega
  rw [e] at h2
  cases e1 : Ut10Neutral.sentIn (x.map Int.toNat) with
  | none => rw [e1] at h2; cases h2
  | some y =>
    rw [e1] at h2 e
    simp only [Option.bind_some] at h2 e
    cases e2 : Ut10Neutral.sentIn y.2 with
    | none => rw [e2] at h2; cases h2
    | some z =>
      rw [e2] at h2 e
      simp only [Option.bind_some] at h2 e
      by_cases c : z.2 = []
      · rw [if_pos c] at e
        refine ⟨hu, h1.1.1.2, y.1, z.1, ?_, fun s => ?_⟩
        · obtain ⟨f, hf⟩ : ∃ f, x.length = f + 1 := ⟨x.length - 1, by omega⟩
          rw [hf]
          have n1 : x.map Int.toNat ≠ [] := by intro q; rw [q] at e1; cases e1
          have n2 : y.2 ≠ [] := by intro q; rw [q] at e2; cases e2
          rw [sentsIn_succ _ _ n1, e1, Option.bind_some, sentsIn_succ _ _ n2, e2, Option.bind_some, c]
          cases f <;> rfl
        · unfold stepR Ut10Neutral.step
          rw [e]
      · rw [if_neg c] at h2
        cases h2
theorem asked_shows (s : St) : stepR s [[9]] = Ut10.step s .shows := rfl
/-! ### rows as what they were made of -/
def flat (ss : List Sent) : List Nat := ss.flatMap fun w => w.length :: w
theorem flat_cons (w : Sent) (ss : List Sent) : flat (w :: ss) = w.length :: (w ++ flat ss) := rfl
theorem flat_append (a b : List Sent) : flat (a ++ b) = flat a ++ flat b := List.flatMap_append ..
theorem sents_flat : ∀ (f : Nat) (l : List Nat) (ss : List Sent), Ut10Neutral.sentsIn f l = some ss → l = flat ss
  | f, [], ss, h => by
    have h : some [] = some ss := by cases f <;> exact h
    cases h
    rfl
  | 0, _ :: _, _, h => by cases h
  | f + 1, n :: l, ss, h => by
    rw [sentsIn_succ f (n :: l) (by intro z; cases z)] at h
    have e : Ut10Neutral.sentIn (n :: l) = if l.length < n then none else some (l.take n, l.drop n) := rfl
    rw [e] at h
    by_cases c : l.length < n
    · rw [if_pos c] at h; cases h
    · rw [if_neg c, Option.bind_some] at h
      cases e2 : Ut10Neutral.sentsIn f (l.drop n) with
      | none => rw [e2] at h; cases h
      | some tt =>
        rw [e2] at h
        cases h
        have ih := sents_flat f _ _ e2
        rw [flat_cons, ← ih, List.take_append_drop, List.length_take, Nat.min_eq_left (by omega)]
def flat2 (bs : List Band) : List Nat := bs.flatMap fun b => [b.1, b.2]
theorem flat2_cons (b : Band) (bs : List Band) : flat2 (b :: bs) = b.1 :: b.2 :: flat2 bs := rfl
theorem pairs_flat : ∀ (l : List Nat) (bs : List Band), Ut10Neutral.pairsIn l = some bs → l = flat2 bs
  | [], bs, h => by cases h; rfl
  | [_], _, h => by cases h
  | a :: b :: l, bs, h => by
    have h : (Ut10Neutral.pairsIn l).map (fun r => (a, b) :: r) = some bs := h
    cases e : Ut10Neutral.pairsIn l with
    | none => rw [e] at h; cases h
    | some tt =>
      rw [e] at h
      cases h
      rw [flat2_cons, ← pairs_flat l tt e]
theorem flat2_length (bs : List Band) : (flat2 bs).length = 2 * bs.length := by
  induction bs with
  | nil => rfl
  | cons b bs ih => rw [flat2_cons, List.length_cons, List.length_cons, ih, List.length_cons]; omega
theorem flat2_get : ∀ (bs : List Band) (k : Nat) (b : Band), bs[k]? = some b → (flat2 bs)[2 * k]? = some b.1 ∧ (flat2 bs)[2 * k + 1]? = some b.2
  | [], _, _, h => by simp at h
  | c :: bs, 0, b, h => by
    have e : c = b := Option.some.inj h
    subst e
    exact ⟨rfl, rfl⟩
  | c :: bs, k + 1, b, h => flat2_get bs k b h
/-- one item more -/
theorem take_more {α : Type} : ∀ {l : List α} {i : Nat} {x : α}, l[i]? = some x → l.take (i + 1) = l.take i ++ [x]
  | [], i, x, h => by simp at h
  | a :: l, 0, x, h => by
    have e : a = x := Option.some.inj h
    subst e
    rfl
  | a :: l, i + 1, x, h => by
    have ih := take_more (l := l) (i := i) (x := x) h
    rw [List.take_succ_cons, List.take_succ_cons, ih]
    rfl
/-- where the i-th sentence stands in its row -/
theorem flat_at {ss : List Sent} {i : Nat} {w : Sent} (h : ss[i]? = some w) : flat ss = flat (ss.take i) ++ (w.length :: (w ++ flat (ss.drop (i + 1)))) := by
  have hl : i < ss.length := (List.getElem?_eq_some_iff.mp h).1
  have e := List.take_append_drop (i + 1) ss
  rw [take_more h] at e
  conv => lhs; rw [← e]
  rw [flat_append, flat_append, List.append_assoc]
  congr 1
  show flat [w] ++ _ = _
  rw [flat_cons]
  simp [flat]
theorem flat_place {ss : List Sent} {i : Nat} {w : Sent} (h : ss[i]? = some w) : (flat (ss.take (i + 1))).length = (flat (ss.take i)).length + 1 + w.length := by
  rw [take_more h, flat_append, List.length_append, flat_cons]
  simp [flat]
  omega
theorem flat_len_lt {ss : List Sent} {i : Nat} (h : i < ss.length) : (flat (ss.take i)).length < (flat ss).length := by
  obtain ⟨w, hw⟩ : ∃ w, ss[i]? = some w := ⟨ss[i], List.getElem?_eq_getElem h⟩
  rw [flat_at hw, List.length_append, List.length_cons]
  omega
theorem sents_le_flat (ss : List Sent) : ss.length ≤ (flat ss).length := by
  induction ss with
  | nil => exact Nat.le_refl _
  | cons w ss ih => rw [flat_cons, List.length_cons, List.length_cons, List.length_append]; omega
theorem sent_le_flat {ss : List Sent} {w : Sent} (h : w ∈ ss) : w.length ≤ (flat ss).length := by
  induction ss with
  | nil => cases h
  | cons v ss ih =>
    rw [flat_cons, List.length_cons, List.length_append]
    rcases List.mem_cons.mp h with rfl | h
    · omega
    · have := ih h; omega
/-! ### done: the sentences that the memory hasn't, each once -/
/-- the program's way: behind it, if it isn't there -/
def grow (m : List Sent) (s : Sent) : List Sent := if m.contains s = true then m else m ++ [s]
def grown (m : List Sent) (ss : List Sent) : List Sent := ss.foldl grow m
end Wc

namespace Wc
open Ut10 (St Sent File Band)
theorem snoc_ind {α : Type} {P : List α → Prop} (h0 : P []) (hs : ∀ l x, P l → P (l ++ [x])) : ∀ l, P l := by
  intro l
  have : ∀ n, ∀ l : List α, l.length = n → P l := by
    intro n
    induction n with
    | zero => intro l h; rw [List.length_eq_zero_iff.mp h]; exact h0
    | succ n ih =>
      intro l h
      have hn : l ≠ [] := by intro z; rw [z] at h; cases h
      rw [← List.dropLast_concat_getLast hn]
      exact hs _ _ (ih _ (by rw [List.length_dropLast, h]; rfl))
  exact this _ l rfl
theorem dups_snoc {α : Type} [BEq α] [LawfulBEq α] (l : List α) (x : α) : (l ++ [x]).eraseDups = if x ∈ l then l.eraseDups else l.eraseDups ++ [x] := by
  rw [List.eraseDups_append]
  by_cases h : x ∈ l
  · rw [if_pos h]
    have e : [x].removeAll l = [] := by simp [List.removeAll, h]
    rw [e, List.eraseDups_nil, List.append_nil]
  · rw [if_neg h]
    have e : [x].removeAll l = [x] := by simp [List.removeAll, h]
    rw [e]
    rfl
theorem grown_snoc (m ss : List Sent) (s : Sent) : grown m (ss ++ [s]) = grow (grown m ss) s := by
  unfold grown
  rw [List.foldl_append]
  rfl
/-- the program's memory behind done is the specification's -/
theorem grown_eq (m ss : List Sent) : grown m ss = m ++ (ss.eraseDups.filter fun s => !m.contains s) := by
  refine snoc_ind (P := fun ss => grown m ss = m ++ (ss.eraseDups.filter fun s => !m.contains s)) ?_ (fun l s ih => ?_) ss
  · simp [grown]
  · rw [grown_snoc, ih, dups_snoc]
    unfold grow
    by_cases h : s ∈ l
    · rw [if_pos h]
      refine if_pos ?_
      by_cases hm : s ∈ m
      · simp [hm]
      · simp [hm, h, List.mem_eraseDups]
    · rw [if_neg h, List.filter_append]
      by_cases hm : s ∈ m
      · rw [if_pos (by simp [hm])]
        simp [hm]
      · rw [if_neg (by simp [hm, h, List.mem_eraseDups])]
        simp [hm]
theorem dups_le {α : Type} [BEq α] [LawfulBEq α] (l : List α) : l.eraseDups.length ≤ l.length := by
  refine snoc_ind (P := fun l => l.eraseDups.length ≤ l.length) (Nat.le_refl _) (fun l x ih => ?_) l
  rw [dups_snoc]
  split
  · rw [List.length_append]; omega
  · rw [List.length_append, List.length_append]; omega
/-- no number twice: as many as without the doubles -/
theorem dups_iff {α : Type} [BEq α] [LawfulBEq α] (l : List α) : l.eraseDups.length = l.length ↔ l.Nodup := by
  refine snoc_ind (P := fun l => l.eraseDups.length = l.length ↔ l.Nodup) (by simp) (fun l x ih => ?_) l
  rw [dups_snoc]
  have hle := dups_le l
  by_cases h : x ∈ l
  · rw [if_pos h]
    constructor
    · intro e
      rw [List.length_append] at e
      simp at e
      omega
    · intro e
      rw [List.nodup_append] at e
      exact absurd rfl (e.2.2 x h x (by simp))
  · rw [if_neg h, List.length_append, List.length_append]
    constructor
    · intro e
      have e : l.eraseDups.length = l.length := by simpa using e
      rw [List.nodup_append]
      refine ⟨ih.mp e, by simp, fun a ha b hb => ?_⟩
      have : b = x := by simpa using hb
      intro z
      rw [z, this] at ha
      exact h ha
    · intro e
      rw [List.nodup_append] at e
      rw [ih.mpr e.1]
/-! ### falling -/
theorem falling_iff : ∀ (l : List Band), Ut10.falling l = true ↔ ∀ k a b, l[k]? = some a → l[k + 1]? = some b → b.1 < a.1
  | [] => by simp [Ut10.falling]
  | [x] => by simp [Ut10.falling]
  | x :: y :: l => by
    have e : Ut10.falling (x :: y :: l) = (decide (y.1 < x.1) && Ut10.falling (y :: l)) := rfl
    rw [e, Bool.and_eq_true, falling_iff (y :: l), decide_eq_true_eq]
    constructor
    · rintro ⟨h1, h2⟩ k a b ha hb
      cases k with
      | zero =>
        have ea : x = a := Option.some.inj ha
        have eb : y = b := Option.some.inj hb
        subst ea eb
        exact h1
      | succ k => exact h2 k a b ha hb
    · intro h
      exact ⟨h 0 x y rfl rfl, fun k a b ha hb => h (k + 1) a b ha hb⟩
/-! ### what is kept of a house over the calls -/
structure Good (s : St) : Prop where
  few : s.files.length ≤ 6
  up : (s.files.map File.number).Pairwise (· < ·)
  low : ∀ f ∈ s.files, f.number < s.given
  sents : ∀ f ∈ s.files, f.sents.length ≤ 8 ∧ ∀ w ∈ f.sents, Ut10.sentOk w = true
  mem : s.memory.length ≤ 20 ∧ ∀ w ∈ s.memory, Ut10.sentOk w = true
  again : s.again ≤ 100
  bands : s.bands.length ≤ 4 ∧ ∀ b ∈ s.bands, b.1 ≤ 100 ∧ b.2 ≤ 100
theorem good_init : Good Ut10Neutral.start := by
  refine ⟨by decide, List.Pairwise.nil, fun f h => ?_, fun f h => ?_, ⟨by decide, fun w h => ?_⟩, by decide, by decide, by decide⟩
  all_goals cases h
theorem all_of {ss : List Sent} (h : ¬ ss.all Ut10.sentOk = false) : ∀ w ∈ ss, Ut10.sentOk w = true := by
  rw [Bool.not_eq_false] at h
  exact List.all_eq_true.mp h
theorem mem_of_find {s : St} {n : Nat} {f : File} (h : Ut10.fileOf s n = some f) : f ∈ s.files ∧ f.number = n := by
  unfold Ut10.fileOf at h
  have h1 := List.mem_of_find?_eq_some h
  have h2 := List.find?_some h
  exact ⟨h1, by simpa using h2⟩
/-! ### the specification's step, way by way -/
def dropped (s : St) (n : Nat) : St := { s with files := s.files.filter fun f => f.number != n }
theorem file_bad {s : St} {l : List Sent} (h : 8 < l.length ∨ l.all Ut10.sentOk = false) : Ut10.step s (.file l) = (s, [-1]) := if_pos h
theorem file_full {s : St} {l : List Sent} (h : ¬ (8 < l.length ∨ l.all Ut10.sentOk = false)) (h2 : 6 ≤ s.files.length) : Ut10.step s (.file l) = (s, [-5]) := (if_neg h).trans (if_pos h2)
theorem file_ok {s : St} {l : List Sent} (h : ¬ (8 < l.length ∨ l.all Ut10.sentOk = false)) (h2 : ¬ 6 ≤ s.files.length) :
    Ut10.step s (.file l) = ({ s with files := s.files ++ [⟨s.given, l⟩], given := s.given + 1 }, Ut10.ints [s.given, (l.map fun w => w.length).sum]) := (if_neg h).trans (if_neg h2)
theorem gone_no {s : St} {n : Nat} (h : Ut10.fileOf s n = none) : Ut10.step s (.gone n) = (s, [-2]) := if_pos (by rw [h]; rfl)
theorem gone_ok {s : St} {n : Nat} {f : File} (h : Ut10.fileOf s n = some f) : Ut10.step s (.gone n) = (dropped s n, Ut10.ints [(dropped s n).files.length]) := if_neg (by rw [h]; simp)
theorem memory_bad {s : St} {l : List Sent} (h : 20 < l.length ∨ l.all Ut10.sentOk = false) : Ut10.step s (.memory l) = (s, [-1]) := if_pos h
theorem memory_ok {s : St} {l : List Sent} (h : ¬ (20 < l.length ∨ l.all Ut10.sentOk = false)) : Ut10.step s (.memory l) = ({ s with memory := l }, Ut10.ints [l.length]) := if_neg h
theorem done_eq (s : St) (n : Nat) : Ut10.step s (.done n) = (match Ut10.fileOf s n with
    | none => (s, [-2])
    | some f => if 20 < (s.memory ++ (f.sents.eraseDups.filter fun w => !s.memory.contains w)).length then (s, [-5]) else
        ({ dropped s n with memory := s.memory ++ (f.sents.eraseDups.filter fun w => !s.memory.contains w) }, Ut10.ints [(dropped s n).files.length, (s.memory ++ (f.sents.eraseDups.filter fun w => !s.memory.contains w)).length])) := rfl
theorem done_no {s : St} {n : Nat} (h : Ut10.fileOf s n = none) : Ut10.step s (.done n) = (s, [-2]) := by
  rw [done_eq, h]
theorem done_full {s : St} {n : Nat} {f : File} (h : Ut10.fileOf s n = some f) (h2 : 20 < (grown s.memory f.sents).length) : Ut10.step s (.done n) = (s, [-5]) := by
  rw [done_eq, h]
  rw [grown_eq] at h2
  exact if_pos h2
theorem done_ok {s : St} {n : Nat} {f : File} (h : Ut10.fileOf s n = some f) (h2 : ¬ 20 < (grown s.memory f.sents).length) :
    Ut10.step s (.done n) = ({ dropped s n with memory := grown s.memory f.sents }, Ut10.ints [(dropped s n).files.length, (grown s.memory f.sents).length]) := by
  rw [done_eq, h]
  rw [grown_eq] at h2 ⊢
  exact if_neg h2
theorem rates_bad {s : St} {a : Nat} {l : List Band} (h : 100 < a ∨ 4 < l.length ∨ (l.all fun b => decide (b.1 ≤ 100) && decide (b.2 ≤ 100)) = false ∨ Ut10.falling l = false) : Ut10.step s (.rates a l) = (s, [-1]) := if_pos h
theorem rates_ok {s : St} {a : Nat} {l : List Band} (h : ¬ (100 < a ∨ 4 < l.length ∨ (l.all fun b => decide (b.1 ≤ 100) && decide (b.2 ≤ 100)) = false ∨ Ut10.falling l = false)) :
    Ut10.step s (.rates a l) = ({ s with again := a, bands := l }, [0]) := if_neg h
theorem good_drop {s : St} (g : Good s) (n : Nat) : Good (dropped s n) := by
  refine ⟨Nat.le_trans (List.length_filter_le ..) g.few, ?_, fun f h => g.low f (List.mem_filter.mp h).1, fun f h => g.sents f (List.mem_filter.mp h).1, g.mem, g.again, g.bands⟩
  exact g.up.sublist (List.filter_sublist.map _)
theorem mem_grown {m ss : List Sent} {w : Sent} (h : w ∈ grown m ss) : w ∈ m ∨ w ∈ ss := by
  rw [grown_eq] at h
  rcases List.mem_append.mp h with h | h
  · exact Or.inl h
  · exact Or.inr (List.mem_eraseDups.mp (List.mem_filter.mp h).1)
theorem good_step {s : St} (g : Good s) (c : Ut10.Call) : Good (Ut10.step s c).1 := by
  cases c with
  | file l =>
    by_cases h1 : 8 < l.length ∨ l.all Ut10.sentOk = false
    · rw [file_bad h1]; exact g
    · by_cases h2 : 6 ≤ s.files.length
      · rw [file_full h1 h2]; exact g
      · rw [file_ok h1 h2]
        have h3 := all_of fun z => h1 (Or.inr z)
        refine ⟨?_, ?_, ?_, ?_, g.mem, g.again, g.bands⟩
        · show (s.files ++ [_]).length ≤ 6
          rw [List.length_append]; simp; omega
        · show ((s.files ++ [_]).map File.number).Pairwise (· < ·)
          rw [List.map_append, List.pairwise_append]
          refine ⟨g.up, by simp, fun a ha b hb => ?_⟩
          obtain ⟨f, hf, rfl⟩ := List.mem_map.mp ha
          have : b = s.given := by simpa using hb
          rw [this]
          exact g.low f hf
        · intro f hf
          rcases List.mem_append.mp hf with hf | hf
          · exact Nat.lt_succ_of_lt (g.low f hf)
          · have : f = ⟨s.given, l⟩ := by simpa using hf
            rw [this]
            exact Nat.lt_succ_self _
        · intro f hf
          rcases List.mem_append.mp hf with hf | hf
          · exact g.sents f hf
          · have : f = ⟨s.given, l⟩ := by simpa using hf
            rw [this]
            exact ⟨Nat.le_of_not_lt fun z => h1 (Or.inl z), h3⟩
  | gone n =>
    cases e : Ut10.fileOf s n with
    | none => rw [gone_no e]; exact g
    | some f => rw [gone_ok e]; exact good_drop g n
  | memory l =>
    by_cases h1 : 20 < l.length ∨ l.all Ut10.sentOk = false
    · rw [memory_bad h1]; exact g
    · rw [memory_ok h1]
      exact ⟨g.few, g.up, g.low, g.sents, ⟨Nat.le_of_not_lt fun z => h1 (Or.inl z), all_of fun z => h1 (Or.inr z)⟩, g.again, g.bands⟩
  | done n =>
    cases e : Ut10.fileOf s n with
    | none => rw [done_no e]; exact g
    | some f =>
      by_cases h2 : 20 < (grown s.memory f.sents).length
      · rw [done_full e h2]; exact g
      · rw [done_ok e h2]
        have gd := good_drop g n
        refine ⟨gd.few, gd.up, gd.low, gd.sents, ⟨Nat.le_of_not_lt h2, fun w hw => ?_⟩, g.again, g.bands⟩
        rcases mem_grown hw with hw | hw
        · exact g.mem.2 w hw
        · exact (g.sents f (mem_of_find e).1).2 w hw
  | rates a l =>
    by_cases h : 100 < a ∨ 4 < l.length ∨ (l.all fun b => decide (b.1 ≤ 100) && decide (b.2 ≤ 100)) = false ∨ Ut10.falling l = false
    · rw [rates_bad h]; exact g
    · rw [rates_ok h]
      refine ⟨g.few, g.up, g.low, g.sents, g.mem, Nat.le_of_not_lt fun z => h (Or.inl z), Nat.le_of_not_lt fun z => h (Or.inr (Or.inl z)), ?_⟩
      have h3 : ¬ (l.all fun b => decide (b.1 ≤ 100) && decide (b.2 ≤ 100)) = false := fun z => h (Or.inr (Or.inr (Or.inl z)))
      rw [Bool.not_eq_false] at h3
      intro b hb
      have := List.all_eq_true.mp h3 b hb
      simpa using this
  | count l => exact g
  | kinds l => exact g
  | part h => exact g
  | near a b => exact g
  | shows => exact g
end Wc

namespace Wc
open Ut10 (St Sent File Band)
/-! ### how far two sentences are: the table -/
/-- the table's cell: the first i words of a to the first j of b -/
def tab (a b : Sent) : Nat → Nat → Nat
  | 0, j => j
  | i + 1, 0 => i + 1
  | i + 1, j + 1 => min (min (tab a b i (j + 1) + 1) (tab a b (i + 1) j + 1)) (tab a b i j + if a[i]? = b[j]? then 0 else 1)
theorem tab_zero (a b : Sent) (j : Nat) : tab a b 0 j = j := by cases j <;> simp [tab]
theorem tab_left (a b : Sent) (i : Nat) : tab a b i 0 = i := by cases i <;> simp [tab]
theorem tab_step (a b : Sent) (i j : Nat) : tab a b (i + 1) (j + 1) = min (min (tab a b i (j + 1) + 1) (tab a b (i + 1) j + 1)) (tab a b i j + if a[i]? = b[j]? then 0 else 1) := by
  rw [tab]
theorem tab_symm (a b : Sent) : ∀ i j, tab a b i j = tab b a j i := by
  intro i
  induction i with
  | zero => intro j; rw [tab_zero, tab_left]
  | succ i ih =>
    intro j
    induction j with
    | zero => rw [tab_left, tab_zero]
    | succ j jh =>
      rw [tab_step, tab_step, ih (j + 1), ih j, jh]
      have e : (if a[i]? = b[j]? then 0 else 1) = if b[j]? = a[i]? then 0 else 1 := by
        by_cases h : a[i]? = b[j]?
        · rw [if_pos h, if_pos h.symm]
        · rw [if_neg h, if_neg fun z => h z.symm]
      rw [e, Nat.min_comm (tab b a (j + 1) i + 1)]
/-- a row of the table -/
def trow (a b : Sent) (i : Nat) : List Nat := (List.range (b.length + 1)).map (tab a b i)
theorem trow_len (a b : Sent) (i : Nat) : (trow a b i).length = b.length + 1 := by simp [trow]
theorem trow_get (a b : Sent) (i j : Nat) (h : j ≤ b.length) : (trow a b i)[j]? = some (tab a b i j) := by
  unfold trow
  rw [List.getElem?_map, List.getElem?_range (by omega)]
  rfl
theorem trow_last (a b : Sent) (i : Nat) : (trow a b i).getLastD 0 = tab a b i b.length := by
  unfold trow
  rw [List.range_succ, List.map_append]
  simp
/-- the specification's row is the table's -/
theorem next_aux (a b : Sent) (i : Nat) (x : Nat) (hx : a[i]? = some x) : ∀ (k : Nat), k ≤ b.length →
    ((b.zip ((trow a b i).zip ((trow a b i).drop 1))).take k).foldl (fun (y : List Nat × Nat) z =>
      let v := min (min (z.2.2 + 1) (y.2 + 1)) (z.2.1 + if x = z.1 then 0 else 1)
      (v :: y.1, v)) ([i + 1], i + 1) = (((List.range (k + 1)).map (tab a b (i + 1))).reverse, tab a b (i + 1) k) := by
  intro k
  induction k with
  | zero => intro _; simp [tab_left]
  | succ k ih =>
    intro hk
    have hb : b[k]? = some (b[k]'(by omega)) := List.getElem?_eq_getElem _
    have hz : (b.zip ((trow a b i).zip ((trow a b i).drop 1)))[k]? = some (b[k]'(by omega), tab a b i k, tab a b i (k + 1)) := by
      rw [List.getElem?_zip_eq_some]
      refine ⟨hb, ?_⟩
      rw [List.getElem?_zip_eq_some]
      refine ⟨trow_get a b i k (by omega), ?_⟩
      rw [List.getElem?_drop, Nat.add_comm]
      exact trow_get a b i (k + 1) hk
    rw [take_more hz, List.foldl_append, ih (by omega)]
    have e : min (min (tab a b i (k + 1) + 1) (tab a b (i + 1) k + 1)) (tab a b i k + if x = b[k]'(by omega) then 0 else 1) = tab a b (i + 1) (k + 1) := by
      rw [tab_step, hx, hb]
      simp only [Option.some.injEq]
    show (min (min (tab a b i (k + 1) + 1) (tab a b (i + 1) k + 1)) (tab a b i k + if x = b[k]'(by omega) then 0 else 1) :: ((List.range (k + 1)).map (tab a b (i + 1))).reverse, min (min (tab a b i (k + 1) + 1) (tab a b (i + 1) k + 1)) (tab a b i k + if x = b[k]'(by omega) then 0 else 1)) = _
    rw [e, List.range_succ (n := k + 1), List.map_append, List.reverse_append]
    rfl
theorem next_row (a b : Sent) (i : Nat) (x : Nat) (hx : a[i]? = some x) : Ut10.nextRow x b (trow a b i) (i + 1) = trow a b (i + 1) := by
  unfold Ut10.nextRow
  have h := next_aux a b i x hx b.length (Nat.le_refl _)
  have hl : (b.zip ((trow a b i).zip ((trow a b i).drop 1))).take b.length = b.zip ((trow a b i).zip ((trow a b i).drop 1)) := List.take_of_length_le (by simp; omega)
  rw [hl] at h
  rw [h, List.reverse_reverse]
  rfl
theorem rows_aux (a b : Sent) : ∀ k, k ≤ a.length → ((a.zipIdx.take k).foldl (fun row x => Ut10.nextRow x.1 b row (x.2 + 1)) (List.range (b.length + 1))) = trow a b k := by
  intro k
  induction k with
  | zero =>
    intro _
    show List.range (b.length + 1) = _
    unfold trow
    have e : tab a b 0 = id := by funext j; rw [tab_zero]; rfl
    rw [e, List.map_id]
  | succ k ih =>
    intro hk
    have ha : a[k]? = some (a[k]'(by omega)) := List.getElem?_eq_getElem _
    have hz : a.zipIdx[k]? = some (a[k]'(by omega), k) := by
      rw [List.getElem?_zipIdx, ha]
      simp
    rw [take_more hz, List.foldl_append, ih (by omega)]
    exact next_row a b k _ ha
/-- the specification's distance is the table's last cell -/
theorem distance_tab (a b : Sent) : Ut10.distance a b = tab a b a.length b.length := by
  unfold Ut10.distance
  have h := rows_aux a b a.length (Nat.le_refl _)
  rw [List.take_of_length_le (by simp)] at h
  rw [h, trow_last]
theorem distance_symm (a b : Sent) : Ut10.distance a b = Ut10.distance b a := by
  rw [distance_tab, distance_tab, tab_symm]
theorem near_symm (a b : Sent) : Ut10.near a b = Ut10.near b a := by
  unfold Ut10.near
  rw [distance_symm, Nat.max_comm]
theorem tab_le (a b : Sent) : ∀ i j, tab a b i j ≤ max i j := by
  intro i
  induction i with
  | zero => intro j; rw [tab_zero]; omega
  | succ i ih =>
    intro j
    cases j with
    | zero => rw [tab_left]; omega
    | succ j =>
      rw [tab_step]
      have h := ih j
      have h2 : tab a b i j + (if a[i]? = b[j]? then 0 else 1) ≤ tab a b i j + 1 := by split <;> omega
      omega
theorem distance_le (a b : Sent) : Ut10.distance a b ≤ max a.length b.length := by
  rw [distance_tab]; exact tab_le a b _ _
theorem near_le (a b : Sent) : Ut10.near a b ≤ 100 := by
  unfold Ut10.near
  split
  · exact Nat.le_refl _
  · rename_i h
    have h1 : 100 * (max a.length b.length - Ut10.distance a b) ≤ 100 * max a.length b.length := Nat.mul_le_mul_left _ (Nat.sub_le ..)
    exact Nat.div_le_of_le_mul (by rw [Nat.mul_comm (max a.length b.length)]; exact h1)
/-! ### kinds, sentence by sentence -/
theorem kinds_append (bands : List Band) (memory : List Sent) : ∀ (l m ahead : List Sent), Ut10.kindsFrom bands memory ahead (l ++ m) = Ut10.kindsFrom bands memory ahead l ++ Ut10.kindsFrom bands memory (ahead ++ l) m
  | [], m, ahead => by simp [Ut10.kindsFrom]
  | s :: l, m, ahead => by
    show (s, Ut10.kindOf bands memory ahead s) :: Ut10.kindsFrom bands memory (ahead ++ [s]) (l ++ m) = (s, Ut10.kindOf bands memory ahead s) :: (Ut10.kindsFrom bands memory (ahead ++ [s]) l ++ Ut10.kindsFrom bands memory (ahead ++ s :: l) m)
    rw [kinds_append bands memory l m (ahead ++ [s])]
    simp
theorem kinds_snoc (bands : List Band) (memory l : List Sent) (s : Sent) : Ut10.kindsFrom bands memory [] (l ++ [s]) = Ut10.kindsFrom bands memory [] l ++ [(s, Ut10.kindOf bands memory l s)] := by
  rw [kinds_append]
  rfl
theorem kinds_len (bands : List Band) (memory : List Sent) : ∀ (l ahead : List Sent), (Ut10.kindsFrom bands memory ahead l).length = l.length
  | [], _ => rfl
  | s :: l, ahead => by
    show (Ut10.kindsFrom bands memory (ahead ++ [s]) l).length + 1 = l.length + 1
    rw [kinds_len bands memory l]
theorem kinds_fst (bands : List Band) (memory : List Sent) : ∀ (l ahead : List Sent), (Ut10.kindsFrom bands memory ahead l).map (·.1) = l
  | [], _ => rfl
  | s :: l, ahead => by
    show s :: (Ut10.kindsFrom bands memory (ahead ++ [s]) l).map (·.1) = s :: l
    rw [kinds_fst bands memory l]
theorem kinds_get {bands : List Band} {memory l : List Sent} {i : Nat} {s : Sent} (h : l[i]? = some s) : (Ut10.kindsFrom bands memory [] l)[i]? = some (s, Ut10.kindOf bands memory (l.take i) s) := by
  have hl : i < l.length := (List.getElem?_eq_some_iff.mp h).1
  have e := List.take_append_drop i l
  have e2 : l.drop i = s :: l.drop (i + 1) := by rw [List.drop_eq_getElem_cons hl]; congr 1; exact Option.some.inj ((List.getElem?_eq_getElem hl).symm.trans h)
  conv => lhs; rw [← e]
  rw [kinds_append, List.getElem?_append_right (by rw [kinds_len, List.length_take]; omega), kinds_len, List.length_take, Nat.min_eq_left (by omega), Nat.sub_self, e2]
  rfl
theorem kindOf_le (bands : List Band) (memory ahead : List Sent) (s : Sent) : Ut10.kindOf bands memory ahead s ≤ bands.length + 1 := by
  unfold Ut10.kindOf
  split
  · exact Nat.zero_le _
  · simp only []
    split
    · rename_i k hk
      have : k < bands.length := (List.findIdx?_eq_some_iff_getElem.mp hk).1
      split <;> omega
    · exact Nat.le_refl _
end Wc

namespace Wc
open Ut10 (St Sent File Band)
/-! ### deals -/
theorem deals_snoc (h : Nat) : ∀ n, Ut10.deals h (n + 1) = (Ut10.deals h n).flatMap fun d => (List.range h).map fun x => d ++ [x] := by
  intro n
  induction n with
  | zero =>
    show ((List.range h).flatMap fun x => ([[]] : List (List Nat)).map fun d => x :: d) = ([[]] : List (List Nat)).flatMap fun d => (List.range h).map fun x => d ++ [x]
    simp [List.flatMap_def, List.flatten_singleton]
    induction h with
    | zero => rfl
    | succ h ih => simp [List.range_succ, ih]
  | succ n ih =>
    have e : Ut10.deals h (n + 2) = (List.range h).flatMap fun x => (Ut10.deals h (n + 1)).map fun d => x :: d := rfl
    have e1 : Ut10.deals h (n + 1) = (List.range h).flatMap fun x => (Ut10.deals h n).map fun d => x :: d := rfl
    rw [e]
    conv => lhs; rw [ih]
    conv => rhs; rw [e1]
    rw [List.flatMap_assoc]
    congr 1
    funext x
    rw [List.map_flatMap, List.flatMap_map]
    congr 1
    funext d
    simp
theorem mem_deals {h : Nat} : ∀ {n : Nat} {d : List Nat}, d ∈ Ut10.deals h n ↔ d.length = n ∧ ∀ x ∈ d, x < h
  | 0, d => by
    show d ∈ [[]] ↔ _
    constructor
    · intro z
      have : d = [] := by simpa using z
      subst this
      simp
    · rintro ⟨z, _⟩
      rw [List.length_eq_zero_iff.mp z]
      simp
  | n + 1, d => by
    show d ∈ ((List.range h).flatMap fun x => (Ut10.deals h n).map fun d => x :: d) ↔ _
    rw [List.mem_flatMap]
    constructor
    · rintro ⟨x, hx, z⟩
      obtain ⟨e, he, rfl⟩ := List.mem_map.mp z
      obtain ⟨h1, h2⟩ := mem_deals.mp he
      refine ⟨by simp [h1], fun y hy => ?_⟩
      rcases List.mem_cons.mp hy with rfl | hy
      · exact List.mem_range.mp hx
      · exact h2 y hy
    · rintro ⟨h1, h2⟩
      match d, h1 with
      | x :: d, h1 =>
        exact ⟨x, List.mem_range.mpr (h2 x (List.mem_cons_self ..)), List.mem_map.mpr ⟨d, mem_deals.mpr ⟨by simpa using h1, fun y hy => h2 y (List.mem_cons_of_mem _ hy)⟩, rfl⟩⟩
theorem deals_len (h : Nat) : ∀ n, (Ut10.deals h n).length = h ^ n
  | 0 => rfl
  | n + 1 => by
    show ((List.range h).flatMap fun x => (Ut10.deals h n).map fun d => x :: d).length = _
    rw [List.length_flatMap]
    simp only [List.length_map, deals_len h n]
    rw [List.map_const', List.sum_replicate_nat, List.length_range, Nat.pow_succ, Nat.mul_comm]
/-- the i-th deal's hands, as the figures of i -/
def figs (h : Nat) : Nat → Nat → List Nat
  | 0, _ => []
  | n + 1, i => figs h n (i / h) ++ [i % h]
theorem range_mul (a h : Nat) (hh : 0 < h) : List.range (a * h) = (List.range a).flatMap fun i => (List.range h).map fun x => i * h + x := by
  induction a with
  | zero => simp
  | succ a ih =>
    rw [Nat.succ_mul, List.range_add, ih, List.range_succ, List.flatMap_append]
    simp
theorem deals_figs (h : Nat) (hh : 0 < h) : ∀ n, Ut10.deals h n = (List.range (h ^ n)).map (figs h n)
  | 0 => rfl
  | n + 1 => by
    rw [deals_snoc, deals_figs h hh n, Nat.pow_succ, range_mul _ _ hh, List.flatMap_map, List.map_flatMap]
    congr 1
    funext i
    rw [List.map_map]
    refine List.map_congr_left fun x hx => ?_
    have hx := List.mem_range.mp hx
    show figs h n i ++ [x] = figs h n ((i * h + x) / h) ++ [(i * h + x) % h]
    rw [Nat.mul_comm i h, Nat.mul_add_div hh, Nat.div_eq_of_lt hx, Nat.add_zero, Nat.mul_add_mod, Nat.mod_eq_of_lt hx]
/-! ### the first of the best -/
/-- better by two numbers: the first less; or the same and the second more -/
def bet (x y : Nat × Nat) : Bool := decide (x.1 < y.1) || (x.1 == y.1 && decide (y.2 < x.2))
theorem bet_irrefl (x : Nat × Nat) : bet x x = false := by simp [bet]
theorem bet_iff (x y : Nat × Nat) : bet x y = true ↔ x.1 < y.1 ∨ (x.1 = y.1 ∧ y.2 < x.2) := by simp [bet]
theorem bet_not (x y : Nat × Nat) : bet x y = false ↔ y.1 < x.1 ∨ (x.1 = y.1 ∧ x.2 ≤ y.2) := by
  rw [← Bool.not_eq_true, bet_iff]
  omega
theorem bet_trans {x y z : Nat × Nat} (h1 : bet x y = true) (h2 : bet y z = true) : bet x z = true := by
  rw [bet_iff] at *; omega
/-- not worse -/
theorem bet_mix {x y z : Nat × Nat} (h1 : bet y x = false) (h2 : bet z y = false) : bet z x = false := by
  rw [bet_not] at *; omega
theorem bet_mix2 {x y z : Nat × Nat} (h1 : bet x y = true) (h2 : bet z y = false) : bet x z = true := by
  rw [bet_not] at h2; rw [bet_iff] at *; omega
/-- what a walk that keeps the best so far ends with -/
def firstBest {α : Type} (k : α → Nat × Nat) (l : List α) (d : α) : α := l.foldl (fun b x => if bet (k x) (k b) = true then x else b) d
/-- it stands at i; none ahead is as good, none behind is better -/
structure IsFirst {α : Type} (k : α → Nat × Nat) (l : List α) (i : Nat) (r : α) : Prop where
  at_ : l[i]? = some r
  ahead : ∀ (j : Nat) (e : α), j < i → l[j]? = some e → bet (k r) (k e) = true
  none : ∀ (j : Nat) (e : α), l[j]? = some e → bet (k e) (k r) = false
theorem IsFirst.unique {α : Type} {k : α → Nat × Nat} {l : List α} {i j : Nat} {r s : α} (a : IsFirst k l i r) (b : IsFirst k l j s) : i = j ∧ r = s := by
  have e : i = j := by
    rcases Nat.lt_trichotomy i j with h | h | h
    · have z := b.ahead i r h a.at_
      rw [a.none j s b.at_] at z
      cases z
    · exact h
    · have z := a.ahead j s h b.at_
      rw [b.none i r a.at_] at z
      cases z
  refine ⟨e, ?_⟩
  subst e
  exact Option.some.inj (a.at_.symm.trans b.at_)
theorem first_snoc {α : Type} {k : α → Nat × Nat} {l : List α} {i : Nat} {r x : α} (a : IsFirst k l i r) : ∃ j, IsFirst k (l ++ [x]) j (if bet (k x) (k r) = true then x else r) := by
  have hi : i < l.length := (List.getElem?_eq_some_iff.mp a.at_).1
  have get : ∀ (j : Nat) (e : α), (l ++ [x])[j]? = some e → l[j]? = some e ∨ (j = l.length ∧ e = x) := by
    intro j e h
    by_cases c : j < l.length
    · rw [List.getElem?_append_left c] at h; exact .inl h
    · rw [List.getElem?_append_right (by omega)] at h
      have hj : j - l.length < 1 := by
        have := (List.getElem?_eq_some_iff.mp h).1
        simpa using this
      have ej : j = l.length := by omega
      subst ej
      rw [Nat.sub_self] at h
      exact .inr ⟨rfl, (Option.some.inj h).symm⟩
  by_cases c : bet (k x) (k r) = true
  · rw [if_pos c]
    refine ⟨l.length, by rw [List.getElem?_append_right (Nat.le_refl _), Nat.sub_self]; rfl, fun j e hj he => ?_, fun j e he => ?_⟩
    · rcases get j e he with h | ⟨h, _⟩
      · exact bet_mix2 c (a.none j e h)
      · omega
    · rcases get j e he with h | ⟨_, rfl⟩
      · have z := bet_mix2 c (a.none j e h)
        rw [bet_iff] at z
        rw [bet_not]
        omega
      · exact bet_irrefl _
  · rw [if_neg c]
    refine ⟨i, by rw [List.getElem?_append_left hi]; exact a.at_, fun j e hj he => ?_, fun j e he => ?_⟩
    · rcases get j e he with h | ⟨h, _⟩
      · exact a.ahead j e hj h
      · omega
    · rcases get j e he with h | ⟨_, rfl⟩
      · exact a.none j e h
      · simpa using c
theorem first_of {α : Type} (k : α → Nat × Nat) (d : α) (l : List α) : ∃ i, IsFirst k (d :: l) i (firstBest k l d) := by
  refine snoc_ind (P := fun l => ∃ i, IsFirst k (d :: l) i (firstBest k l d)) ?_ (fun l x ⟨i, h⟩ => ?_) l
  · refine ⟨0, rfl, fun j e hj _ => by omega, fun j e he => ?_⟩
    match j, he with
    | 0, he => cases he; exact bet_irrefl _
    | j + 1, he => simp at he
  · obtain ⟨j, hj⟩ := first_snoc (x := x) h
    refine ⟨j, ?_⟩
    unfold firstBest at *
    rw [List.foldl_append]
    exact hj
/-- a deal's two numbers -/
def keyOf (w : List Nat) (h : Nat) (d : List Nat) : Nat × Nat := (Ut10.most (Ut10.loads w h d), Ut10.fewest (Ut10.loads w h d))
theorem better_bet (w : List Nat) (h : Nat) (d e : List Nat) : Ut10.better w h d e = bet (keyOf w h d) (keyOf w h e) := rfl
/-- the specification's deal is the first of the best -/
theorem deal_first (w : List Nat) (h : Nat) (hh : 0 < h) : ∃ i, IsFirst (keyOf w h) (Ut10.deals h w.length) i (Ut10.deal w h) := by
  unfold Ut10.deal
  have hl := deals_len h w.length
  have hp : 0 < h ^ w.length := Nat.pow_pos hh
  cases e : Ut10.deals h w.length with
  | nil => rw [e] at hl; simp at hl; omega
  | cons d l => exact first_of (keyOf w h) d l
theorem deal_is {w : List Nat} {h : Nat} (hh : 0 < h) {i : Nat} {r : List Nat} (a : IsFirst (keyOf w h) (Ut10.deals h w.length) i r) : Ut10.deal w h = r := by
  obtain ⟨j, hj⟩ := deal_first w h hh
  exact (hj.unique a).2
theorem deal_mem (w : List Nat) (h : Nat) (hh : 0 < h) : (Ut10.deal w h).length = w.length ∧ ∀ x ∈ Ut10.deal w h, x < h := by
  obtain ⟨i, hi⟩ := deal_first w h hh
  exact mem_deals.mp (List.mem_of_getElem? hi.at_)
/-! ### loads -/
theorem loads_len (w : List Nat) (h : Nat) (d : List Nat) : (Ut10.loads w h d).length = h := by simp [Ut10.loads]
theorem loads_nil (h : Nat) : Ut10.loads [] h [] = List.replicate h 0 := by
  unfold Ut10.loads
  simp [List.map_const']
theorem loads_get (w : List Nat) (h : Nat) (d : List Nat) (x : Nat) (hx : x < h) : (Ut10.loads w h d)[x]? = some ((w.zip d).map fun y => if y.2 = x then y.1 else 0).sum := by
  unfold Ut10.loads
  rw [List.getElem?_map, List.getElem?_range hx]
  rfl
/-- one file more goes to hand x -/
theorem loads_snoc (w d : List Nat) (h v x : Nat) (hl : d.length = w.length) : Ut10.loads (w ++ [v]) h (d ++ [x]) = (Ut10.loads w h d).modify x (· + v) := by
  refine List.ext_getElem? fun i => ?_
  rw [List.getElem?_modify]
  by_cases hi : i < h
  · rw [loads_get _ _ _ _ hi, loads_get _ _ _ _ hi, List.zip_append (by omega), List.map_append, List.sum_append]
    by_cases c : x = i
    · subst c; simp
    · simp [c]
  · rw [List.getElem?_eq_none (by rw [loads_len]; omega), List.getElem?_eq_none (by rw [loads_len]; omega)]
    rfl
/-! ### the greatest and the least of a row -/
theorem most_ge : ∀ (l : List Nat) (a : Nat), a ≤ l.foldl max a ∧ (∀ x ∈ l, x ≤ l.foldl max a) ∧ (l.foldl max a = a ∨ l.foldl max a ∈ l)
  | [], a => ⟨Nat.le_refl _, by simp, .inl rfl⟩
  | y :: l, a => by
    obtain ⟨h1, h2, h3⟩ := most_ge l (max a y)
    show a ≤ l.foldl max (max a y) ∧ _
    refine ⟨by omega, fun x hx => ?_, ?_⟩
    · show x ≤ l.foldl max (max a y)
      rcases List.mem_cons.mp hx with rfl | hx
      · omega
      · exact h2 x hx
    · show l.foldl max (max a y) = a ∨ l.foldl max (max a y) ∈ y :: l
      rcases h3 with h3 | h3
      · rw [h3]
        by_cases c : a ≤ y
        · rw [Nat.max_eq_right c]; exact .inr (List.mem_cons_self ..)
        · rw [Nat.max_eq_left (by omega)]; exact .inl rfl
      · exact .inr (List.mem_cons_of_mem _ h3)
theorem most_is {l : List Nat} {m : Nat} (h : m ∈ l) (hle : ∀ x ∈ l, x ≤ m) : Ut10.most l = m := by
  obtain ⟨_, h2, h3⟩ := most_ge l 0
  unfold Ut10.most
  have := h2 m h
  rcases h3 with h3 | h3
  · omega
  · have := hle _ h3
    omega
theorem few_ge : ∀ (l : List Nat) (a : Nat), l.foldl min a ≤ a ∧ (∀ x ∈ l, l.foldl min a ≤ x) ∧ (l.foldl min a = a ∨ l.foldl min a ∈ l)
  | [], a => ⟨Nat.le_refl _, by simp, .inl rfl⟩
  | y :: l, a => by
    obtain ⟨h1, h2, h3⟩ := few_ge l (min a y)
    show l.foldl min (min a y) ≤ a ∧ _
    refine ⟨by omega, fun x hx => ?_, ?_⟩
    · show l.foldl min (min a y) ≤ x
      rcases List.mem_cons.mp hx with rfl | hx
      · omega
      · exact h2 x hx
    · show l.foldl min (min a y) = a ∨ l.foldl min (min a y) ∈ y :: l
      rcases h3 with h3 | h3
      · rw [h3]
        by_cases c : y ≤ a
        · rw [Nat.min_eq_right c]; exact .inr (List.mem_cons_self ..)
        · rw [Nat.min_eq_left (by omega)]; exact .inl rfl
      · exact .inr (List.mem_cons_of_mem _ h3)
theorem few_is {l : List Nat} {m : Nat} (h : m ∈ l) (hle : ∀ x ∈ l, m ≤ x) : Ut10.fewest l = m := by
  match l, h, hle with
  | x :: l, h, hle =>
    obtain ⟨h1, h2, h3⟩ := few_ge l x
    show l.foldl min x = m
    rcases List.mem_cons.mp h with e | h
    · subst e
      rcases h3 with h3 | h3
      · exact h3
      · have := hle _ (List.mem_cons_of_mem _ h3)
        omega
    · have := h2 m h
      rcases h3 with h3 | h3
      · have := hle x (List.mem_cons_self ..)
        omega
      · have := hle _ (List.mem_cons_of_mem _ h3)
        omega
end Wc

namespace Wc
open Ut10 (St Sent File Band)
/-! ### a job's files -/
theorem mapM_all {α β : Type} {f : α → Option β} {F : α → β} : ∀ {l : List α}, (∀ x ∈ l, f x = some (F x)) → l.mapM f = some (l.map F)
  | [], _ => rfl
  | x :: l, h => by
    rw [List.mapM_cons, h x (List.mem_cons_self ..), mapM_all fun y hy => h y (List.mem_cons_of_mem _ hy)]
    rfl
theorem mapM_no {α β : Type} {f : α → Option β} : ∀ {l : List α} {x : α}, x ∈ l → f x = none → l.mapM f = none
  | y :: l, x, h, e => by
    rw [List.mapM_cons]
    rcases List.mem_cons.mp h with rfl | h
    · rw [e]; rfl
    · cases f y with
      | none => rfl
      | some z =>
        have ih := mapM_no (f := f) h e
        rw [ih]
        rfl
theorem job_all (g : St) : Ut10.job g [] = some g.files := rfl
theorem job_twice {g : St} {l : List Nat} (h : ¬ l.Nodup) : Ut10.job g l = none := by
  unfold Ut10.job
  have hn : ¬ l = [] := fun z => h (by rw [z]; exact List.nodup_nil)
  rw [if_neg hn, if_pos fun z => h ((dups_iff l).mp z)]
theorem job_no {g : St} {l : List Nat} {n : Nat} (h : n ∈ l) (e : Ut10.fileOf g n = none) : Ut10.job g l = none := by
  unfold Ut10.job
  have hn : ¬ l = [] := fun z => by rw [z] at h; cases h
  rw [if_neg hn]
  split
  · rfl
  · exact mapM_no h e
theorem job_some {g : St} {l : List Nat} {F : Nat → File} (hn : ¬ l = []) (hd : l.Nodup) (h : ∀ n ∈ l, Ut10.fileOf g n = some (F n)) : Ut10.job g l = some (l.map F) := by
  unfold Ut10.job
  rw [if_neg hn, if_neg fun z => z ((dups_iff l).mpr hd)]
  exact mapM_all h
/-! ### words by kinds -/
def cnt (x : List (Sent × Nat)) (k : Nat) : Nat := ((x.filter fun y => y.2 == k).map fun y => y.1.length).sum
theorem cnt_snoc (x : List (Sent × Nat)) (s : Sent) (q k : Nat) : cnt (x ++ [(s, q)]) k = cnt x k + if q = k then s.length else 0 := by
  unfold cnt
  rw [List.filter_append, List.map_append, List.sum_append]
  by_cases h : q = k
  · subst h; simp
  · simp [h]
theorem counts_cnt (g : St) (l : List File) : Ut10.counts g l = (List.range (g.bands.length + 2)).map (cnt (Ut10.kindsFrom g.bands g.memory [] (Ut10.allOf l))) := rfl
theorem cnt_row (x : List (Sent × Nat)) (s : Sent) (q m : Nat) : (List.range m).map (cnt (x ++ [(s, q)])) = ((List.range m).map (cnt x)).modify q (· + s.length) := by
  refine List.ext_getElem? fun i => ?_
  rw [List.getElem?_modify, List.getElem?_map, List.getElem?_map]
  by_cases hi : i < m
  · rw [List.getElem?_range hi]
    simp only [Option.map_some, cnt_snoc]
    by_cases c : q = i
    · subst c; simp
    · simp [c]
  · rw [List.getElem?_eq_none (by simpa using hi)]
    rfl
def wsum (g : St) (x : List (Sent × Nat)) : Nat := (x.map fun y => y.1.length * Ut10.pays g y.2).sum
theorem wsum_snoc (g : St) (x : List (Sent × Nat)) (s : Sent) (q : Nat) : wsum g (x ++ [(s, q)]) = wsum g x + s.length * Ut10.pays g q := by
  unfold wsum
  rw [List.map_append, List.sum_append]
  simp
theorem weight_wsum (g : St) (l : List File) : Ut10.weight g l = wsum g (Ut10.kindsFrom g.bands g.memory [] (Ut10.allOf l)) := rfl
/-- what a job weighs, by how many words are of each kind -/
theorem wsum_cnt (g : St) (m : Nat) : ∀ (x : List (Sent × Nat)), (∀ y ∈ x, y.2 < m) → wsum g x = ((List.range m).map fun k => cnt x k * Ut10.pays g k).sum := by
  intro x
  refine snoc_ind (P := fun x => (∀ y ∈ x, y.2 < m) → wsum g x = ((List.range m).map fun k => cnt x k * Ut10.pays g k).sum) ?_ (fun l y ih => ?_) x
  · intro _
    have : (fun k => cnt [] k * Ut10.pays g k) = fun _ => 0 := by funext k; simp [cnt]
    rw [this]
    simp [wsum, List.map_const', List.sum_replicate_nat]
  · intro h
    obtain ⟨s, q⟩ := y
    have hq : q < m := h (s, q) (by simp)
    rw [wsum_snoc, ih fun y hy => h y (List.mem_append_left _ hy)]
    have e : (fun k => cnt (l ++ [(s, q)]) k * Ut10.pays g k) = fun k => cnt l k * Ut10.pays g k + (if q = k then s.length * Ut10.pays g q else 0) := by
      funext k
      rw [cnt_snoc, Nat.add_mul]
      by_cases c : q = k
      · subst c; simp
      · simp [c]
    rw [e]
    have add : ∀ (f f2 : Nat → Nat) (l : List Nat), (l.map fun k => f k + f2 k).sum = (l.map f).sum + (l.map f2).sum := by
      intro f f2 l
      induction l with
      | nil => rfl
      | cons a l ih => simp only [List.map_cons, List.sum_cons, ih]; omega
    rw [add]
    congr 1
    have one : ∀ (m q v : Nat), q < m → ((List.range m).map fun k => if q = k then v else 0).sum = v := by
      intro m q v
      induction m with
      | zero => intro z; omega
      | succ m ih =>
        intro z
        rw [List.range_succ, List.map_append, List.sum_append]
        by_cases c : q = m
        · subst c
          have : (List.range q).map (fun k => if q = k then v else 0) = (List.range q).map fun _ => 0 := List.map_congr_left fun k hk => if_neg (by have := List.mem_range.mp hk; omega)
          rw [this]
          simp [List.map_const', List.sum_replicate_nat]
        · rw [ih (by omega)]
          simp [c]
    exact (one m q _ hq).symm
/-! ### a sentence's kind -/
/-- how near the nearest is -/
def topNear (s : Sent) (pool : List Sent) : Nat := pool.foldl (fun m x => max m (Ut10.near s x)) 0
theorem topNear_snoc (s : Sent) (pool : List Sent) (x : Sent) : topNear s (pool ++ [x]) = max (topNear s pool) (Ut10.near s x) := by
  unfold topNear
  rw [List.foldl_append]
  rfl
theorem kind_again {bands : List Band} {memory ahead : List Sent} {s : Sent} (h1 : s ∈ ahead) (h2 : ¬ s ∈ memory) : Ut10.kindOf bands memory ahead s = 0 := by
  unfold Ut10.kindOf
  rw [if_pos ⟨by simpa using h1, by simpa using h2⟩]
theorem kind_else {bands : List Band} {memory ahead : List Sent} {s : Sent} (h : ¬ (s ∈ ahead ∧ ¬ s ∈ memory)) : Ut10.kindOf bands memory ahead s =
    match bands.findIdx? fun b => decide (b.1 ≤ topNear s (memory ++ ahead)) with
    | some k => if (memory ++ ahead).isEmpty = true then bands.length + 1 else k + 1
    | none => bands.length + 1 := by
  unfold Ut10.kindOf
  rw [if_neg fun z => h ⟨by simpa using z.1, by simpa using z.2⟩]
  rfl
theorem kind_alone {bands : List Band} {s : Sent} : Ut10.kindOf bands [] [] s = bands.length + 1 := by
  rw [kind_else (by simp)]
  split
  · exact if_pos rfl
  · rfl
end Wc

namespace Wc
open Ut10 (St Sent File Band)
/-! ### the nearest -/
theorem topNear_most (s : Sent) (pool : List Sent) : topNear s pool = Ut10.most (pool.map (Ut10.near s)) := by
  unfold topNear Ut10.most
  rw [List.foldl_map]
theorem topNear_is {s : Sent} {pool : List Sent} {m : Nat} (h : m ∈ pool.map (Ut10.near s)) (hle : ∀ x ∈ pool.map (Ut10.near s), x ≤ m) : topNear s pool = m := by
  rw [topNear_most]
  exact most_is h hle
/-- how near the nearest is; none: below each band -/
def nearV (s : Sent) (pool : List Sent) : Int := if pool = [] then -1 else (topNear s pool : Nat)
theorem nearV_nil {s : Sent} : nearV s [] = -1 := rfl
theorem nearV_cons {s : Sent} {pool : List Sent} (h : ¬ pool = []) : nearV s pool = (topNear s pool : Nat) := if_neg h
theorem kind_first {bands : List Band} {memory ahead : List Sent} {s : Sent} (h : ¬ (s ∈ ahead ∧ ¬ s ∈ memory)) {k : Nat} {b : Band} (hk : bands[k]? = some b) (hb : ((b.1 : Nat) : Int) ≤ nearV s (memory ++ ahead))
    (ha : ∀ j c, j < k → bands[j]? = some c → ¬ ((c.1 : Nat) : Int) ≤ nearV s (memory ++ ahead)) : Ut10.kindOf bands memory ahead s = k + 1 := by
  have hp : ¬ memory ++ ahead = [] := fun z => by
    rw [z, nearV_nil] at hb
    omega
  rw [nearV_cons hp] at hb ha
  rw [kind_else h]
  obtain ⟨hl, e⟩ := List.getElem?_eq_some_iff.mp hk
  have ef : (bands.findIdx? fun b => decide (b.1 ≤ topNear s (memory ++ ahead))) = some k := by
    rw [List.findIdx?_eq_some_iff_getElem]
    refine ⟨hl, by rw [e]; exact decide_eq_true (by omega), fun j hj => ?_⟩
    have := ha j (bands[j]'(by omega)) hj (List.getElem?_eq_getElem _)
    simp
    omega
  rw [ef]
  show (if (memory ++ ahead).isEmpty = true then _ else _) = _
  rw [if_neg (by rw [List.isEmpty_iff]; exact hp)]
theorem kind_new {bands : List Band} {memory ahead : List Sent} {s : Sent} (h : ¬ (s ∈ ahead ∧ ¬ s ∈ memory)) (ha : ∀ (j : Nat) (c : Band), bands[j]? = some c → ¬ ((c.1 : Nat) : Int) ≤ nearV s (memory ++ ahead)) : Ut10.kindOf bands memory ahead s = bands.length + 1 := by
  rw [kind_else h]
  split
  · rename_i k ef
    by_cases hp : memory ++ ahead = []
    · rw [if_pos (by rw [hp]; rfl)]
    · rw [List.findIdx?_eq_some_iff_getElem] at ef
      obtain ⟨hl, e, _⟩ := ef
      have := ha k bands[k] (List.getElem?_eq_getElem _)
      rw [nearV_cons hp] at this
      have e := of_decide_eq_true e
      omega
  · rfl
/-! ### what is paid -/
def paid (g : St) : List Nat := [g.again] ++ g.bands.map (fun b => b.2) ++ [100]
theorem paid_len (g : St) : (paid g).length = g.bands.length + 2 := by simp [paid]
theorem paid_get (g : St) {k : Nat} (h : k < g.bands.length + 2) : (paid g)[k]? = some (Ut10.pays g k) := by
  unfold paid Ut10.pays
  cases k with
  | zero => rfl
  | succ k =>
    show (g.bands.map (fun b => b.2) ++ [100])[k]? = _
    rw [if_neg (by omega), show k + 1 - 1 = k by omega]
    by_cases c : k < g.bands.length
    · rw [List.getElem?_append_left (by simpa using c), List.getElem?_map, List.getElem?_eq_getElem c]
      rfl
    · have e : k = g.bands.length := by omega
      subst e
      rw [List.getElem?_append_right (by simp), List.getElem?_eq_none (Nat.le_refl _)]
      simp
theorem pays_le {g : St} (G : Good g) (k : Nat) : Ut10.pays g k ≤ 100 := by
  unfold Ut10.pays
  split
  · exact G.again
  · cases e : g.bands[k - 1]? with
    | none => exact Nat.le_refl _
    | some b => exact (G.bands.2 b (List.mem_of_getElem? e)).2
def kf (g : St) (ss : List Sent) : List (Sent × Nat) := Ut10.kindsFrom g.bands g.memory [] ss
def cntRow (g : St) (ss : List Sent) : List Nat := (List.range (g.bands.length + 2)).map (cnt (kf g ss))
theorem cntRow_len (g : St) (ss : List Sent) : (cntRow g ss).length = g.bands.length + 2 := by simp [cntRow]
theorem cntRow_get (g : St) (ss : List Sent) {k : Nat} (h : k < g.bands.length + 2) : (cntRow g ss)[k]? = some (cnt (kf g ss) k) := by
  unfold cntRow
  rw [List.getElem?_map, List.getElem?_range h]
  rfl
theorem cntRow_nil (g : St) : cntRow g [] = List.replicate (g.bands.length + 2) 0 := by
  unfold cntRow
  have : cnt (kf g []) = fun _ => 0 := by funext k; rfl
  rw [this]
  simp [List.map_const']
theorem cntRow_snoc (g : St) (ss : List Sent) (s : Sent) : cntRow g (ss ++ [s]) = (cntRow g ss).modify (Ut10.kindOf g.bands g.memory ss s) (· + s.length) := by
  unfold cntRow kf
  rw [kinds_snoc, cnt_row]
theorem counts_row (g : St) (l : List File) : Ut10.counts g l = cntRow g (Ut10.allOf l) := rfl
def wOf (g : St) (ss : List Sent) : Nat := wsum g (kf g ss)
theorem weight_of_eq (g : St) (l : List File) : Ut10.weight g l = wOf g (Ut10.allOf l) := rfl
theorem kf_lt (g : St) (ss : List Sent) : ∀ y ∈ kf g ss, y.2 < g.bands.length + 2 := by
  intro y hy
  obtain ⟨i, hi⟩ := List.mem_iff_getElem?.mp hy
  have hl : i < ss.length := by
    have := (List.getElem?_eq_some_iff.mp hi).1
    unfold kf at this
    rw [kinds_len] at this
    exact this
  have e := kinds_get (bands := g.bands) (memory := g.memory) (List.getElem?_eq_getElem hl)
  unfold kf at hi
  rw [hi] at e
  have e := Option.some.inj e
  rw [e]
  have := kindOf_le g.bands g.memory (ss.take i) ss[i]
  show Ut10.kindOf _ _ _ _ < _
  omega
theorem wOf_sum (g : St) (ss : List Sent) : wOf g ss = ((List.range (g.bands.length + 2)).map fun k => cnt (kf g ss) k * Ut10.pays g k).sum := wsum_cnt g _ _ (kf_lt g ss)
theorem own_eq (g : St) (f : File) : Ut10.own g f = wOf g f.sents := by
  unfold Ut10.own
  rw [weight_of_eq]
  unfold Ut10.allOf
  simp
def kRow (g : St) (ss : List Sent) : List Nat := (kf g ss).map fun y => y.2
theorem kRow_len (g : St) (ss : List Sent) : (kRow g ss).length = ss.length := by
  unfold kRow kf
  rw [List.length_map, kinds_len]
theorem kRow_snoc (g : St) (ss : List Sent) (s : Sent) : kRow g (ss ++ [s]) = kRow g ss ++ [Ut10.kindOf g.bands g.memory ss s] := by
  unfold kRow kf
  rw [kinds_snoc, List.map_append]
  rfl
theorem kRow_get (g : St) {ss : List Sent} {i : Nat} {s : Sent} (h : ss[i]? = some s) : (kRow g ss)[i]? = some (Ut10.kindOf g.bands g.memory (ss.take i) s) := by
  unfold kRow kf
  rw [List.getElem?_map, kinds_get h]
  rfl
/-! ### the best deal as the walk over all finds it -/
theorem first_again {α : Type} (k : α → Nat × Nat) (d : α) (l : List α) : firstBest k (d :: l) d = firstBest k l d := by
  unfold firstBest
  rw [List.foldl_cons, bet_irrefl, if_neg (by decide)]
theorem first_more {α : Type} (k : α → Nat × Nat) (d x : α) (l : List α) : firstBest k (l ++ [x]) d = if bet (k x) (k (firstBest k l d)) = true then x else firstBest k l d := by
  unfold firstBest
  rw [List.foldl_append]
  rfl
theorem deal_walk {w : List Nat} {h : Nat} {d : List Nat} {l : List (List Nat)} (e : Ut10.deals h w.length = d :: l) : Ut10.deal w h = firstBest (keyOf w h) (Ut10.deals h w.length) d := by
  rw [e, first_again]
  unfold Ut10.deal
  rw [e]
  rfl
theorem deals_cons {h : Nat} (hh : 0 < h) (n : Nat) : ∃ d l, Ut10.deals h n = d :: l := by
  have hl := deals_len h n
  have hp : 0 < h ^ n := Nat.pow_pos hh
  cases e : Ut10.deals h n with
  | nil => rw [e] at hl; simp at hl; omega
  | cons d l => exact ⟨d, l, rfl⟩
theorem deals_few {h n : Nat} (hh : h ≤ 4) (hn : n ≤ 6) : (Ut10.deals h n).length ≤ 4096 := by
  rw [deals_len]
  exact Nat.le_trans (Nat.pow_le_pow_left hh n) (Nat.le_trans (Nat.pow_le_pow_right (by decide) hn) (by decide))
theorem take_flat {α β : Type} {l : List α} {F : α → List β} {j : Nat} {x : α} (h : l[j]? = some x) : (l.take (j + 1)).flatMap F = (l.take j).flatMap F ++ F x := by
  rw [take_more h, List.flatMap_append]
  simp
/-! ### a job's sentences -/
def sentsOf (s : St) (n : Nat) : List Sent := ((Ut10.fileOf s n).map File.sents).getD []
def jobS (s : St) (ns : List Nat) : List Sent := ns.flatMap (sentsOf s)
def nums (s : St) : List Nat := s.files.map File.number
def chosen (s : St) (ns : List Nat) : List Nat := if ns = [] then nums s else ns
theorem find_of {s : St} (G : Good s) {f : File} (h : f ∈ s.files) : Ut10.fileOf s f.number = some f := by
  unfold Ut10.fileOf
  have up := G.up
  generalize s.files = fs at h up
  induction fs with
  | nil => cases h
  | cons x l ih =>
    rw [List.map_cons, List.pairwise_cons] at up
    rcases List.mem_cons.mp h with rfl | h
    · rw [List.find?_cons, beq_self_eq_true]
    · have := up.1 f.number (List.mem_map.mpr ⟨f, h, rfl⟩)
      rw [List.find?_cons, beq_eq_false_iff_ne.mpr (by omega)]
      exact ih h up.2
theorem sentsOf_file {s : St} (G : Good s) {f : File} (h : f ∈ s.files) : sentsOf s f.number = f.sents := by
  unfold sentsOf
  rw [find_of G h]
  rfl
theorem mem_nums {s : St} {n : Nat} : n ∈ nums s ↔ (Ut10.fileOf s n).isSome = true := by
  unfold nums Ut10.fileOf
  rw [List.find?_isSome, List.mem_map]
  constructor
  · rintro ⟨f, h1, rfl⟩; exact ⟨f, h1, beq_self_eq_true _⟩
  · rintro ⟨f, h1, h2⟩; exact ⟨f, h1, eq_of_beq h2⟩
theorem all_nums {s : St} (G : Good s) : Ut10.allOf s.files = jobS s (nums s) := by
  unfold Ut10.allOf jobS nums
  rw [List.flatMap_map]
  rw [List.flatMap_def, List.flatMap_def]
  congr 1
  exact List.map_congr_left fun f hf => (sentsOf_file G hf).symm
def hasJ (s : St) (ns : List Nat) : Bool := decide ns.Nodup && ns.all fun n => (Ut10.fileOf s n).isSome
theorem job_not {s : St} {ns : List Nat} (h : hasJ s ns = false) : Ut10.job s ns = none := by
  unfold hasJ at h
  rw [Bool.and_eq_false_iff] at h
  rcases h with h | h
  · exact job_twice (of_decide_eq_false h)
  · rw [List.all_eq_false] at h
    obtain ⟨n, h1, h2⟩ := h
    refine job_no h1 ?_
    cases e : Ut10.fileOf s n with
    | none => rfl
    | some f => rw [e] at h2; simp at h2
theorem job_yes {s : St} (G : Good s) {ns : List Nat} (h : hasJ s ns = true) : ∃ x, Ut10.job s ns = some x ∧ Ut10.allOf x = jobS s (chosen s ns) := by
  unfold chosen
  by_cases c : ns = []
  · subst c
    exact ⟨s.files, rfl, by rw [if_pos rfl]; exact all_nums G⟩
  · rw [if_neg c]
    unfold hasJ at h
    rw [Bool.and_eq_true, List.all_eq_true] at h
    refine ⟨_, job_some (F := fun n => (Ut10.fileOf s n).getD ⟨0, []⟩) c (of_decide_eq_true h.1) fun n hn => ?_, ?_⟩
    · obtain ⟨f, hf⟩ := Option.isSome_iff_exists.mp (h.2 n hn)
      rw [hf]
      rfl
    · unfold Ut10.allOf jobS
      rw [List.flatMap_map, List.flatMap_def, List.flatMap_def]
      congr 1
      refine List.map_congr_left fun n hn => ?_
      obtain ⟨f, hf⟩ := Option.isSome_iff_exists.mp (h.2 n hn)
      unfold sentsOf
      rw [hf]
      rfl
theorem has_mem {s : St} {ns : List Nat} (h : hasJ s ns = true) : ∀ n ∈ chosen s ns, (Ut10.fileOf s n).isSome = true := by
  intro n hn
  unfold chosen at hn
  by_cases c : ns = []
  · rw [if_pos c] at hn
    exact mem_nums.mp hn
  · rw [if_neg c] at hn
    unfold hasJ at h
    rw [Bool.and_eq_true, List.all_eq_true] at h
    exact h.2 n hn
theorem chosen_len {s : St} (G : Good s) {ns : List Nat} (h : ns.length ≤ 10) : (chosen s ns).length ≤ 10 := by
  unfold chosen
  split
  · unfold nums
    rw [List.length_map]
    have := G.few
    omega
  · exact h
theorem sentsOf_len {s : St} (G : Good s) (n : Nat) : (sentsOf s n).length ≤ 8 := by
  unfold sentsOf
  cases e : Ut10.fileOf s n with
  | none => exact Nat.zero_le _
  | some f => exact (G.sents f (mem_of_find e).1).1
theorem sentsOf_ok {s : St} (G : Good s) (n : Nat) : ∀ w ∈ sentsOf s n, Ut10.sentOk w = true := by
  unfold sentsOf
  cases e : Ut10.fileOf s n with
  | none => intro w h; cases h
  | some f => exact (G.sents f (mem_of_find e).1).2
theorem jobS_len {s : St} (G : Good s) : ∀ ns : List Nat, (jobS s ns).length ≤ 8 * ns.length
  | [] => Nat.le_refl _
  | n :: ns => by
    have h1 := sentsOf_len G n
    have h2 := jobS_len G ns
    unfold jobS at h2 ⊢
    rw [List.flatMap_cons, List.length_append, List.length_cons]
    omega
theorem jobS_ok {s : St} (G : Good s) (ns : List Nat) : ∀ w ∈ jobS s ns, Ut10.sentOk w = true := by
  intro w h
  unfold jobS at h
  obtain ⟨n, _, h2⟩ := List.mem_flatMap.mp h
  exact sentsOf_ok G n w h2
theorem count_no {s : St} {l : List Nat} (h : hasJ s l = false) : Ut10.step s (.count l) = (s, [-2]) := by
  show (s, match Ut10.job s l with | none => [-2] | some x => Ut10.ints (Ut10.weight s x :: Ut10.counts s x)) = _
  rw [job_not h]
theorem count_yes {s : St} (G : Good s) {l : List Nat} (h : hasJ s l = true) : Ut10.step s (.count l) = (s, Ut10.ints (wOf s (jobS s (chosen s l)) :: cntRow s (jobS s (chosen s l)))) := by
  show (s, match Ut10.job s l with | none => [-2] | some x => Ut10.ints (Ut10.weight s x :: Ut10.counts s x)) = _
  obtain ⟨x, h1, h2⟩ := job_yes G h
  rw [h1, ← h2]
  rfl
theorem kinds_no {s : St} {l : List Nat} (h : hasJ s l = false) : Ut10.step s (.kinds l) = (s, [-2]) := by
  show (s, match Ut10.job s l with | none => [-2] | some x => Ut10.ints ((Ut10.kindsFrom s.bands s.memory [] (Ut10.allOf x)).length :: (Ut10.kindsFrom s.bands s.memory [] (Ut10.allOf x)).map fun (y : Sent × Nat) => y.2)) = _
  rw [job_not h]
theorem kinds_yes {s : St} (G : Good s) {l : List Nat} (h : hasJ s l = true) : Ut10.step s (.kinds l) = (s, Ut10.ints ((kRow s (jobS s (chosen s l))).length :: kRow s (jobS s (chosen s l)))) := by
  show (s, match Ut10.job s l with | none => [-2] | some x => Ut10.ints ((Ut10.kindsFrom s.bands s.memory [] (Ut10.allOf x)).length :: (Ut10.kindsFrom s.bands s.memory [] (Ut10.allOf x)).map fun (y : Sent × Nat) => y.2)) = _
  obtain ⟨x, h1, h2⟩ := job_yes G h
  rw [h1, ← h2]
  unfold kRow kf
  rw [List.length_map]
def ws (s : St) : List Nat := s.files.map (Ut10.own s)
theorem ws_eq {s : St} (G : Good s) : ws s = (nums s).map fun n => wOf s (sentsOf s n) := by
  unfold ws nums
  rw [List.map_map]
  exact List.map_congr_left fun f hf => by
    show Ut10.own s f = wOf s (sentsOf s f.number)
    rw [own_eq, sentsOf_file G hf]
theorem part_no {s : St} {h : Nat} (c : h = 0 ∨ 4 < h) : Ut10.step s (.part h) = (s, [-1]) := by
  show (s, if h = 0 ∨ 4 < h then [-1] else _) = _
  rw [if_pos c]
theorem part_yes {s : St} {h : Nat} (c : ¬ (h = 0 ∨ 4 < h)) : Ut10.step s (.part h) = (s, Ut10.ints ([Ut10.most (Ut10.loads (ws s) h (Ut10.deal (ws s) h)), Ut10.fewest (Ut10.loads (ws s) h (Ut10.deal (ws s) h))] ++ Ut10.deal (ws s) h)) := by
  show (s, if h = 0 ∨ 4 < h then [-1] else _) = _
  rw [if_neg c]
  rfl
theorem near_no {s : St} {a b : Sent} (c : Ut10.sentOk a = false ∨ Ut10.sentOk b = false) : Ut10.step s (.near a b) = (s, [-1]) := by
  show (s, if Ut10.sentOk a = false ∨ Ut10.sentOk b = false then [-1] else _) = _
  rw [if_pos c]
theorem near_yes {s : St} {a b : Sent} (c : ¬ (Ut10.sentOk a = false ∨ Ut10.sentOk b = false)) : Ut10.step s (.near a b) = (s, Ut10.ints [Ut10.near a b]) := by
  show (s, if Ut10.sentOk a = false ∨ Ut10.sentOk b = false then [-1] else _) = _
  rw [if_neg c]
def showRow (s : St) (ns : List Nat) : List Nat := ns.flatMap fun n => [n, (sentsOf s n).length]
theorem shows_eq {s : St} (G : Good s) : Ut10.step s .shows = (s, Ut10.ints ([s.files.length, s.memory.length] ++ showRow s (nums s))) := by
  show (s, Ut10.ints ([s.files.length, s.memory.length] ++ s.files.flatMap fun f => [f.number, f.sents.length])) = _
  have e : (s.files.flatMap fun f => [f.number, f.sents.length]) = showRow s (nums s) := by
    unfold showRow nums
    rw [List.flatMap_map, List.flatMap_def, List.flatMap_def]
    congr 1
    exact List.map_congr_left fun f hf => by
      show _ = [f.number, (sentsOf s f.number).length]
      rw [sentsOf_file G hf]
  rw [e]
theorem sorted_is {a b : List Int} (hp : a.Perm b) (ha : a.Pairwise (· ≤ ·)) (hb : b.Pairwise (· ≤ ·)) : a = b :=
  hp.eq_of_pairwise (le := (· ≤ ·)) (fun _ _ _ _ h1 h2 => Int.le_antisymm h1 h2) ha hb
end Wc

namespace Wc
open PySem PySem.Spec PyProof.Rows L2
variable {X : Cx}
/-- max(t), t a tuple of whole numbers -/
def rMaxT (K : PySem.W.Frag) : List V → Hp → VK → Prop := fun vs H Q => ∃ (a : Addr) (ns : List Int), vs = [V.ref a] ∧ SqT K H a (ns.map V.int) ∧ 0 < ns.length ∧
  ∀ m : Int, m ∈ ns → (∀ y, y ∈ ns → y ≤ m) → Q (.int m) H
theorem maxOf_ints (x : Int) (xs : List Int) : PySem.W.maxOf x xs ∈ x :: xs ∧ ∀ y ∈ x :: xs, y ≤ PySem.W.maxOf x xs := by
  induction xs generalizing x with
  | nil => exact ⟨List.mem_cons_self .., fun y hy => by rcases List.mem_cons.mp hy with rfl | hy; exact Int.le_refl _; cases hy⟩
  | cons z zs ih =>
    have e : PySem.W.maxOf x (z :: zs) = PySem.W.maxOf (if decide (x < z) = true then z else x) zs := rfl
    rw [e]
    by_cases c : x < z
    · rw [if_pos (decide_eq_true c)]
      obtain ⟨h1, h2⟩ := ih z
      refine ⟨List.mem_cons_of_mem _ h1, fun y hy => ?_⟩
      rcases List.mem_cons.mp hy with rfl | hy
      · exact Int.le_trans (Int.le_of_lt c) (h2 z (List.mem_cons_self ..))
      · exact h2 y hy
    · rw [if_neg (by simpa using c)]
      obtain ⟨h1, h2⟩ := ih x
      refine ⟨?_, fun y hy => ?_⟩
      · rcases List.mem_cons.mp h1 with h1 | h1
        · rw [h1]; exact List.mem_cons_self ..
        · exact List.mem_cons_of_mem _ (List.mem_cons_of_mem _ h1)
      · rcases List.mem_cons.mp hy with rfl | hy
        · exact h2 _ (List.mem_cons_self ..)
        · rcases List.mem_cons.mp hy with rfl | hy
          · exact Int.le_trans (Int.not_lt.mp c) (h2 x (List.mem_cons_self ..))
          · exact h2 y (List.mem_cons_of_mem _ hy)
theorem hold_ints {h : Heap} : ∀ {ns : List Int} {us : List Value}, Vals (ns.map V.int) us → PySem.W.HoldAll h us ns
  | [], _, .nil => PySem.W.HoldAll.nil
  | n :: ns, _, .cons r t => by
    obtain ⟨k, rfl⟩ := r
    exact PySem.W.HoldAll.cons (PySem.W.holds_int n k) (hold_ints t)
theorem cr_maxT (hc : X.calm = true) (hu : X.A.units + 1 < cLine) : CallR X (.builtin "max") (rMaxT X.K) := by
  intro pins s σ H vs us Q I r h
  obtain ⟨a, ns, rfl, hs, hne, q⟩ := h
  obtain ⟨its, rv, ht, hz⟩ := I.tuple hs
  rw [Vals.ref1 r]
  cases ns with
  | nil => cases hne
  | cons x xs =>
    have hm := maxOf_ints x xs
    refine PySem.W.max_tuple_datum (α := Int) (I.ok.hd hc) (x := x) (xs := xs) ht (hold_ints rv) hu fun i v h' tk hi hv hk => ?_
    obtain ⟨bs, hv⟩ := hv
    have e : ∃ t, v = Value.int (PySem.W.maxOf x xs) t := by
      generalize PySem.W.maxOf x xs = m at hv
      cases hv with
      | int n t => exact ⟨t, rfl⟩
    obtain ⟨t, rfl⟩ := e
    exact ⟨.int _, H, I.kept hk, ⟨t, rfl⟩, q _ hm.1 hm.2⟩
end Wc

namespace Wc
open PySem PySem.Spec PyProof.Rows L2
variable {X : Cx}
/-! ### max(l, default=d) -/
/-- l a list of whole numbers -/
def rMaxDef (K : PySem.W.Frag) : List V → List V → Hp → VK → Prop := fun vs zs H Q => ∃ (a : Addr) (ns : List Int) (d : V), vs = [V.ref a] ∧ zs = [d] ∧ SqL K H a (ns.map V.int) ∧
  (ns = [] → Q d H) ∧ ∀ m : Int, m ∈ ns → (∀ y, y ∈ ns → y ≤ m) → Q (.int m) H
theorem cr_maxDef (hc : X.calm = true) (hu : X.A.units + 1 < cLine) : CallRK X (.builtin "max") ["default"] (rMaxDef X.K) := by
  intro pins s σ H xs zs us ws Q I r r2 h
  obtain ⟨a, ns, d, rfl, rfl, hs, q0, q⟩ := h
  obtain ⟨its, rv, pl, hz⟩ := I.list hs
  rw [Vals.ref1 r]
  obtain ⟨u, rfl, ru⟩ := vals1 r2
  refine PySem.W.max_list_datum_default (α := Int) (I.ok.hd hc) (xs := ns) pl.isList (hold_ints rv) hu (fun e h' tk hk => ?_) fun y ys i v h' tk e hi hv hk => ?_
  · exact ⟨d, H, I.kept hk, ru, q0 e⟩
  · have hm := maxOf_ints y ys
    rw [e] at q
    obtain ⟨bs, hv⟩ := hv
    have ez : ∃ t, v = Value.int (PySem.W.maxOf y ys) t := by
      generalize PySem.W.maxOf y ys = m at hv
      cases hv with
      | int n t => exact ⟨t, rfl⟩
    obtain ⟨t, rfl⟩ := ez
    exact ⟨.int _, H, I.kept hk, ⟨t, rfl⟩, q _ hm.1 hm.2⟩
/-! ### len(set(xs)), xs a list of whole numbers -/
theorem met_all {ns : List Int} : ∀ i, i ≤ ns.length → (PyProof.Rows.firstMet (fun i => ns.getD i 0) i).length = i → PyProof.Rows.firstMet (fun i => ns.getD i 0) i = ns.take i ∧ (ns.take i).Nodup
  | 0, _, _ => ⟨rfl, List.nodup_nil⟩
  | i + 1, hi, hl => by
    have hlt : i < ns.length := hi
    have e1 : ns.getD i 0 = ns[i] := by
      rw [List.getD_eq_getElem?_getD, List.getElem?_eq_getElem hlt]; rfl
    have e2 : ns.take (i + 1) = ns.take i ++ [ns[i]] := by
      rw [List.take_add_one, List.getElem?_eq_getElem hlt]; rfl
    have hle := PyProof.Rows.firstMet_length_le (fun i => ns.getD i 0) i
    rw [PyProof.Rows.firstMet_succ] at hl ⊢
    have e3 : ∀ l : List Int, PyProof.Rows.step_dedup l (ns.getD i 0) = if l.any (· == ns.getD i 0) then l else l ++ [ns.getD i 0] := fun _ => rfl
    rw [e3] at hl ⊢
    cases c : (PyProof.Rows.firstMet (fun i => ns.getD i 0) i).any (· == ns.getD i 0) with
    | true =>
      rw [c, if_pos rfl] at hl
      omega
    | false =>
      rw [c, if_neg (by decide)] at hl
      rw [if_neg (by decide)]
      rw [List.length_append] at hl
      obtain ⟨h1, h2⟩ := met_all i (Nat.le_of_lt hlt) (by simpa using hl)
      rw [h1] at c ⊢
      rw [e1] at c ⊢
      rw [e2]
      refine ⟨rfl, ?_⟩
      rw [List.nodup_append]
      refine ⟨h2, List.pairwise_singleton _ _, fun x hx y hy e => ?_⟩
      have : y = ns[i] := by simpa using hy
      rw [e, this] at hx
      have : (ns.take i).any (· == ns[i]) = true := List.any_eq_true.mpr ⟨ns[i], hx, beq_self_eq_true _⟩
      rw [this] at c
      cases c
def tLenSetN (K : PySem.W.Frag) (ta : TE) : TE := fun σ H Q => ta σ H fun x H1 => ∃ (l : Addr) (ns : List Int), x = .ref l ∧ SqL K H1 l (ns.map V.int) ∧ ns.length ≤ 4000 ∧
  ∀ n : Nat, n ≤ ns.length → (n = ns.length ↔ ns.Nodup) → Q (.int (n : Nat)) H1
theorem pe_lenSetN {a : Expr} {ta : TE} {p p2 q pos : Pos} (hg : Gl X "len") (hm : X.mg "len" = none) (hg2 : Gl X "set") (hm2 : X.mg "set" = none) (ha : PE X a ta) (hc : X.calm = true := by rfl)
    (na : starEach [a] X.env = (false, eval a X.env) :: starEach [] X.env := by rfl) : PE X (.Call (.Name "len" p) [.Call (.Name "set" p2) [a] [] q] [] pos) (tLenSetN X.K ta) := by
  refine ⟨fun pins s σ H Q I h => ?_⟩
  refine Call_ (ld_blt I hg hm boot_len ?_)
  refine PyProof.Rows.callWith_builtin1 (PyProof.Rows.args_cons ?_ rfl) rfl rfl
  refine Call_ (ld_blt I hg2 hm2 boot_set ?_)
  refine PyProof.Rows.callWith_type1 (PyProof.Rows.args_cons (thn (ha.run pins s σ H _ I h) fun v s1 ⟨x, H1, I1, r1, q1⟩ => PyProof.Rows.args_nil ?_) na) na rfl
  obtain ⟨l, ns, rfl, hq, hl, q1⟩ := q1
  cases r1
  obtain ⟨its, r, pl, hz⟩ := I1.list hq
  have hlen : its.toArray.size = ns.length := by rw [List.size_toArray, ← r.length, List.length_map]
  refine call_set_list (I1.ok.hd hc) pl.isList (by simpa using RZ.intsAre_vals r) (by rw [hlen]; unfold scanBound; omega) fun h' tk hS hk => ?_
  refine PyProof.Rows.args_nil ?_
  rw [hlen] at hS
  have hle := PyProof.Rows.firstMet_length_le (fun i => ns.getD i 0) ns.length
  have hiff : (PyProof.Rows.firstMet (fun i => ns.getD i 0) ns.length).length = ns.length ↔ ns.Nodup := by
    constructor
    · intro e
      have := (met_all ns.length (Nat.le_refl _) e).2
      rw [List.take_length] at this
      exact this
    · intro e
      rw [RZ.firstMet_nodup e ns.length (Nat.le_refl _), List.take_length]
  obtain ⟨o, es, ep, t, ho, hex, hd, _, _, _, hf, hn⟩ := hS
  have I2 : Inv X pins σ H1 { s1 with heap := h', toks := tk } := I1.kept fun b o e => hk b o (Heap.lt_size e) e
  refine call_len_set ho hex hd hf (by rw [hn]; omega) ⟨.int _, H1, I2.tok _, ⟨_, by rw [hn]⟩, q1 _ hle hiff⟩
/-! ### min of three whole numbers -/
theorem min3 (a b c : Int) : nuMin3 (.int a) (.int b) (.int c) = some (.int (min (min a b) c)) := by
  have m2 : ∀ x y : Int, nuMin2 (.int x) (.int y) = some (.int (min x y)) := by
    intro x y
    have e : nuMin2 (.int x) (.int y) = some (if decide (y < x) = true then V.int y else V.int x) := rfl
    rw [e]
    by_cases h : y < x
    · rw [if_pos (decide_eq_true h), Int.min_eq_right (Int.le_of_lt h)]
    · rw [if_neg (by simpa using h), Int.min_eq_left (Int.not_lt.mp h)]
  unfold nuMin3
  rw [m2]
  exact m2 _ _
theorem atZ {α : Type} {xs : List α} {j : Nat} {v : α} {z : Int} (h : xs[j]? = some v) (e : z = (j : Int)) : atI xs z = some v := by
  subst e
  exact atI_nat h
theorem ixZ {n j : Nat} {z : Int} (h : j < n) (e : z = (j : Int)) : ixN n z = some j := by
  subst e
  unfold ixN
  rw [if_pos (by omega), if_pos (by omega)]
  simp
end Wc

namespace Wc
open PySem PySem.Spec PyProof.Rows L2
open Ut10 (Sent File Band)
def top (i : Nat) : Stmt := PySem.Challenge.pw_wordcounts_s01_answers.main.body.getD i (.Pass ⟨0, 0, 0, 0⟩)
/-- a name of the top holds this value -/
def Cst (mg : Str → Option Value) (x : Str) (v : V) : Prop := ∃ u, mg x = some u ∧ RelV v u
theorem pe_cst {X : Cx} {x : Str} {v : V} {pos : Pos} (h : Cst X.mg x v) (hg : Gl X x := by rfl) (hdb : (x == ("__debug__" : Str)) = false := by decide) : PE X (.Name x pos) (tC v) := by
  obtain ⟨u, h1, h2⟩ := h
  exact pe_glob hg h1 h2 hdb
structure Txt (mg : Str → Option Value) : Prop where
  len : mg "len" = none
  max : mg "max" = none
  all : mg "all" = none
  sum : mg "sum" = none
  list : mg "list" = none
  tuple : mg "tuple" = none
  range : mg "range" = none
  min : mg "min" = none
  set : mg "set" = none
  sorted : mg "sorted" = none
  cWrong : Cst mg "WRONG" (.int (-1))
  cNo : Cst mg "NO_SUCH_FILE" (.int (-2))
  cFull : Cst mg "FULL" (.int (-5))
  cWords : Cst mg "MOST_WORDS" (.int 10)
  cWord : Cst mg "GREATEST_WORD" (.int 999)
  cFiles : Cst mg "MOST_FILES" (.int 6)
  cFileS : Cst mg "MOST_FILE_SENTENCES" (.int 8)
  cMemS : Cst mg "MOST_MEMORY_SENTENCES" (.int 20)
  cBands : Cst mg "MOST_BANDS" (.int 4)
  cRate : Cst mg "GREATEST_RATE" (.int 100)
  cAgain : Cst mg "FIRST_AGAIN" (.int 20)
  cHands : Cst mg "MOST_HANDS" (.int 4)
  cRep : Cst mg "REPEATED" (.int 0)
  cNew : Cst mg "PAID_NEW" (.int 100)
  cNone : Cst mg "NEAR_NONE" (.int (-1))
  c0 : Cst mg "FILE" (.int 0)
  c1 : Cst mg "GONE" (.int 1)
  c2 : Cst mg "MEMORY" (.int 2)
  c3 : Cst mg "DONE" (.int 3)
  c4 : Cst mg "RATES" (.int 4)
  c5 : Cst mg "COUNT" (.int 5)
  c6 : Cst mg "KINDS" (.int 6)
  c7 : Cst mg "PART" (.int 7)
  c8 : Cst mg "NEAR" (.int 8)
  c9 : Cst mg "SHOWS" (.int 9)
/-- a sentence's words -/
def wv (s : List Nat) : List V := s.map fun n : Nat => V.int (n : Int)
theorem wv_ints (s : List Nat) : wv s = (s.map fun n : Nat => (n : Int)).map V.int := by
  unfold wv
  rw [List.map_map]
  rfl
theorem wv_len (s : List Nat) : (wv s).length = s.length := List.length_map ..
def SentAt (H : Hp) (v : V) (s : Sent) : Prop := ∃ t, v = .ref t ∧ H t = some (.tup (wv s))
section
variable {P : Program} {w : World} {K : PySem.W.Frag} {mg : Str → Option Value} {base : Heap}
/-! ### is_right_sentence -/
abbrev sRightS : Stmt := top 8
def spRightS : Sp := fun vs H Q _ => ∃ (v : V) (s : Sent), vs = [v] ∧ SentAt H v s ∧ Q (.bl (Ut10.sentOk s)) H
theorem scRightS : FnScope ["words"] ["words"] (defScope sRightS) := ⟨rfl, rfl, rfl, by decide +kernel, rfl, by decide +kernel, by decide +kernel⟩
theorem sentOk_eq (s : Sent) : Ut10.sentOk s = (decide (1 ≤ s.length) && (decide (s.length ≤ 10) && s.all fun w => decide (w ≤ 999))) := rfl
theorem ok_rightS {f : Addr} {fd : FuncData} (F : Fun K "is_right_sentence" "is_right_sentence" sRightS f fd) (T : Txt mg) : FnOk P w K mg base CX0 1 f fd ["words"] spRightS := by
  refine F.ok scRightS (fun vs H Q E h => ?_) (fun cdv A outer s H vs Q E hr h => ?_)
  · obtain ⟨v, s, rfl, _⟩ := h
    rfl
  · obtain ⟨v, s, rfl, ⟨t, rfl, ht⟩, k⟩ := h
    have hu := hu_of hr
    refine ⟨_, pss_cons (ps_if (PW.pt (pw_or (pt_cmpR op_lt (pe_callB call_len_seq (by rfl) T.len PySem.boot_len (pa_cons (pv 0) pa_nil)) pe_int (nomark _))
        (pw_or1 (pt_cmpR op_gt (pe_callB call_len_seq (by rfl) T.len PySem.boot_len (pa_cons (pv 0) pa_nil)) (pe_cst T.cWords) (nomark _)))))
        (pss_one (ps_ret pe_bl)) pss_nil)
      (pss_one (ps_ret (pe_cmpR op_le (pe_callB (cr_maxT rfl hu) (by rfl) T.max (by decide +kernel) (pa_cons (pv 0) pa_nil)) (pe_cst T.cWord) (nomark _)))), ?_⟩
    refine ⟨_, rfl, t, _, rfl, .inr (SqT.of ht), _, _, rfl, rfl, _, rfl, ?_⟩
    rw [wv_len]
    refine ite2 (fun c => ?_) (fun c => ?_)
    · refine iteT ?_
      have c := of_decide_eq_true c
      have e : Ut10.sentOk s = false := by rw [sentOk_eq, decide_eq_false (by omega : ¬ 1 ≤ s.length)]; rfl
      rw [e] at k
      exact k
    · have c : ¬ ((s.length : Int) < 1) := fun z => c (decide_eq_true z)
      refine ⟨_, rfl, t, _, rfl, .inr (SqT.of ht), _, _, rfl, rfl, _, rfl, ?_⟩
      rw [wv_len]
      refine ite2 (fun c2 => ?_) (fun c2 => ?_)
      · have c2 := of_decide_eq_true c2
        have e : Ut10.sentOk s = false := by rw [sentOk_eq, decide_eq_false (by omega : ¬ s.length ≤ 10), Bool.false_and, Bool.and_false]
        rw [e] at k
        exact k
      · have c2 : ¬ ((10 : Int) < s.length) := fun z => c2 (decide_eq_true z)
        refine ⟨_, rfl, t, s.map (fun n : Nat => (n : Int)), rfl, ?_, ?_, fun m hm hle => ⟨_, _, rfl, rfl, ?_⟩⟩
        · rw [← wv_ints]; exact SqT.of ht
        · rw [List.length_map]; omega
        · have e : Ut10.sentOk s = decide (m ≤ 999) := by
            rw [sentOk_eq, decide_eq_true (by omega : 1 ≤ s.length), decide_eq_true (by omega : s.length ≤ 10), Bool.true_and, Bool.true_and, Bool.eq_iff_iff, List.all_eq_true, decide_eq_true_eq]
            constructor
            · intro h
              obtain ⟨n, hn, rfl⟩ := List.mem_map.mp hm
              have := of_decide_eq_true (h n hn)
              omega
            · intro h n hn
              have := hle (n : Int) (List.mem_map.mpr ⟨n, hn, rfl⟩)
              exact decide_eq_true (by omega)
          rw [e] at k
          exact k
end
end Wc

namespace Wc
open PySem PySem.Spec PyProof.Rows L2
open Ut10 (Sent File Band)
/-! ### what stands in the heap -/
theorem same_upd {H H1 : Hp} {a : Addr} {o : HO} (s : Same H H1) (h : H a = none) : Same H (upd H1 a o) := fun b u e => by
  rw [upd_ne (ne_of_none e h)]
  exact s b u e
theorem same_new {H : Hp} {a : Addr} {o : HO} (h : H a = none) : Same H (upd H a o) := same_upd (Same.refl H) h
theorem SentAt.same {H H' : Hp} {v : V} {s : Sent} (e : Same H H') (h : SentAt H v s) : SentAt H' v s := by
  obtain ⟨t, rfl, ht⟩ := h
  exact ⟨t, rfl, e _ _ ht⟩
/-- values that are sentences, one by one -/
structure SentsAt (H : Hp) (vs : List V) (ss : List Sent) : Prop where
  len : vs.length = ss.length
  get : ∀ (i : Nat) (v : V), vs[i]? = some v → ∃ s, ss[i]? = some s ∧ SentAt H v s
theorem SentsAt.same {H H' : Hp} {vs : List V} {ss : List Sent} (e : Same H H') (h : SentsAt H vs ss) : SentsAt H' vs ss :=
  ⟨h.len, fun i v hi => by
    obtain ⟨s, h1, h2⟩ := h.get i v hi
    exact ⟨s, h1, h2.same e⟩⟩
theorem SentsAt.nil {H : Hp} : SentsAt H [] [] := ⟨rfl, fun i v h => by simp at h⟩
theorem SentsAt.snoc {H : Hp} {vs : List V} {ss : List Sent} {v : V} {s : Sent} (h : SentsAt H vs ss) (hv : SentAt H v s) : SentsAt H (vs ++ [v]) (ss ++ [s]) := by
  refine ⟨by rw [List.length_append, List.length_append, h.len]; rfl, fun i u hi => ?_⟩
  by_cases c : i < vs.length
  · rw [List.getElem?_append_left c] at hi
    obtain ⟨x, h1, h2⟩ := h.get i u hi
    exact ⟨x, by rw [List.getElem?_append_left (by rw [← h.len]; exact c)]; exact h1, h2⟩
  · rw [List.getElem?_append_right (by omega)] at hi
    rw [List.getElem?_append_right (by rw [← h.len]; omega), ← h.len]
    generalize i - vs.length = j at hi ⊢
    cases j with
    | zero =>
      have e : v = u := Option.some.inj hi
      subst e
      exact ⟨s, rfl, hv⟩
    | succ j => simp at hi
section
variable {P : Program} {w : World} {K : PySem.W.Frag} {mg : Str → Option Value} {base : Heap}
/-- a def of the top that keeps its promise, by its name -/
def Df (P : Program) (w : World) (K : PySem.W.Frag) (mg : Str → Option Value) (base : Heap) (x : Str) (k : Nat) (ps : List Str) (sp : Sp) : Prop :=
  ∃ (f : Addr) (fd : FuncData), mg x = some (.ref f) ∧ PySem.W.keepIn K (.ref f) = true ∧ Binds K fd ps [] ∧ FnOk P w K mg base CX0 k f fd ps sp
theorem pe_df {X : Cx} {x : Str} {k : Nat} {ps : List Str} {sp : Sp} {p pos : Pos} {e : Expr} {es : List Expr} {t : TA} (D : Df X.prog X.w X.K X.mg X.base x k ps sp) (hr : Room k X.A) (ha : PA X (e :: es) t) (hg : Gl X x := by rfl)
    (hdb : (x == ("__debug__" : Str)) = false := by decide) (he : starEach (e :: es) X.env = (false, eval e X.env) :: starEach es X.env := by rfl) (hpl : (backTo pos (starEach es X.env)).any (·.1) = false := by rfl) :
    PE X (.Call (.Name x p) (e :: es) [] pos) (tCall sp [] E0 t) := by
  obtain ⟨f, fd, hm, hk, hb, F⟩ := D
  exact pe_call F hr hg hm hk hb .nil pass0 ha hdb he hpl
/-! ### are_right_sentences -/
abbrev sRightSs : Stmt := top 9
def spRightSs : Sp := fun vs H Q _ => ∃ (a : Addr) (xs : List V) (ss : List Sent) (m : Nat), vs = [.ref a, .int m] ∧ H a = some (.lst xs) ∧ SentsAt H xs ss ∧ ss.length ≤ 1000 ∧
  ∀ H', Same H H' → Q (.bl (decide (ss.length ≤ m) && ss.all Ut10.sentOk)) H'
theorem scRightSs : FnScope ["sentences", "most", "words"] ["sentences", "most"] (defScope sRightSs) := ⟨rfl, rfl, rfl, by decide +kernel, rfl, by decide +kernel, by decide +kernel⟩
theorem ok_rightSs {f : Addr} {fd : FuncData} (F : Fun K "are_right_sentences" "are_right_sentences" sRightSs f fd) (T : Txt mg) (D1 : Df P w K mg base "is_right_sentence" 1 ["words"] spRightS) : FnOk P w K mg base CX0 3 f fd ["sentences", "most"] spRightSs := by
  refine F.ok scRightSs (fun vs H Q E h => ?_) (fun cdv A outer s H vs Q E hr h => ?_)
  · obtain ⟨a, xs, ss, m, rfl, _⟩ := h
    rfl
  · obtain ⟨a, xs, ss, m, rfl, ha, hs, hlen, k⟩ := h
    have hu := hu_of hr
    refine ⟨_, pss_cons (ps_if (pt_cmpR op_gt (pe_callB call_len_seq (by rfl) T.len PySem.boot_len (pa_cons (pv 0) pa_nil)) (pv 1) (nomark _)) (pss_one (ps_ret pe_bl)) pss_nil)
      (pss_one (ps_ret (pe_callB (cr_all rfl) (by rfl) T.all (by decide +kernel) (pa_cons
        (pe_lc (own := [("words", 2)]) (g := gName 2) (tt := tYes) rfl scRightSs.nd (pi_list (pv 0)) (blkOk_by (N := ["sentences", "most", "words"]) (sc := defScope sRightSs) (by decide +kernel))
          (fun _ _ _ _ _ => pg_name (i := 2) scRightSs.nd rfl (Or.inl rfl)) (fun _ _ _ _ _ => pts_nil) (fun _ _ _ _ _ => pe_df D1 (hr.mono (by decide)) (pa_cons (pv 2) pa_nil))) pa_nil)))), ?_⟩
    refine ⟨_, rfl, a, _, rfl, .inl (SqL.of ha), _, rfl, _, _, rfl, rfl, _, rfl, ?_⟩
    refine ite2 (fun c => ?_) (fun c => ?_)
    · have c := of_decide_eq_true c
      rw [hs.len] at c
      have k := k H (Same.refl H)
      rw [decide_eq_false (by omega : ¬ ss.length ≤ m)] at k
      exact k
    · have c : ¬ ((m : Int) < xs.length) := fun z => c (decide_eq_true z)
      rw [hs.len] at c
      refine ⟨_, rfl, a, rfl, ⟨_, SqL.of ha⟩, fun D nD => lc_list (K := K) (a := a) (xs := xs) (fun i H' => ∃ H0, Same H H0 ∧ H' = upd H0 D (.lst ((ss.take i).map fun s => V.bl (Ut10.sentOk s)))) ?_ ?_ ?_ ?_⟩
      · exact ⟨H, Same.refl H, rfl⟩
      · rintro i H' _ ⟨H0, s0, rfl⟩
        exact SqL.of ((same_upd s0 nD) _ _ ha)
      · rintro i x H' hi ⟨H0, s0, rfl⟩
        obtain ⟨z, hz, hzz⟩ := hs.get i x hi
        refine ⟨rfl, _, rfl, x, z, rfl, hzz.same (same_upd s0 nD), ?_⟩
        refine ⟨_, upd_same, ?_, H0, s0, ?_⟩
        · rw [List.length_map, List.length_take]; exact Nat.lt_of_le_of_lt (Nat.le_trans (Nat.min_le_right ..) hlen) (by decide)
        · rw [upd_upd, take_more hz, List.map_append]; rfl
      · rintro H' ⟨H0, s0, rfl⟩
        rw [hs.len, List.take_length]
        refine ⟨D, ss.map Ut10.sentOk, rfl, ?_, ?_⟩
        · rw [List.map_map]; exact SqL.of upd_same
        · have e : (decide (ss.length ≤ m) && ss.all Ut10.sentOk) = (ss.map Ut10.sentOk).all id := by
            rw [decide_eq_true (by omega : ss.length ≤ m), Bool.true_and, List.all_map]; rfl
          rw [← e]
          exact k _ (same_upd s0 nD)
end
end Wc

namespace Wc
open PySem PySem.Spec PyProof.Rows L2
open Ut10 (Sent File Band)
theorem wv_get {l : List Nat} {i n : Nat} (h : l[i]? = some n) : (wv l)[i]? = some (.int (n : Int)) := by
  unfold wv
  rw [List.getElem?_map, h]
  rfl
theorem wv_snoc (l : List Nat) (n : Nat) : wv (l ++ [n]) = wv l ++ [.int (n : Int)] := List.map_append ..
theorem small_line {n : Nat} (h : n ≤ 100000) : n < sizeLine := Nat.lt_of_le_of_lt h (by decide)
section
variable {P : Program} {w : World} {K : PySem.W.Frag} {mg : Str → Option Value} {base : Heap}
/-! ### fewest_changes -/
abbrev sFew : Stmt := top 11
def spFew : Sp := fun vs H Q _ => ∃ (v u : V) (a b : Sent), vs = [v, u] ∧ SentAt H v a ∧ SentAt H u b ∧ a.length ≤ 1000 ∧ b.length ≤ 1000 ∧
  ∀ H', Same H H' → Q (.int (Ut10.distance a b : Nat)) H'
theorem scFew : FnScope ["words", "others", "above", "k", "row", "i", "exchanged"] ["words", "others"] (defScope sFew) := ⟨rfl, rfl, rfl, by decide +kernel, rfl, by decide +kernel, by decide +kernel⟩
theorem ok_few {f : Addr} {fd : FuncData} (F : Fun K "fewest_changes" "fewest_changes" sFew f fd) (T : Txt mg) : FnOk P w K mg base CX0 1 f fd ["words", "others"] spFew := by
  refine F.ok scFew (fun vs H Q E h => ?_) (fun cdv A outer s H vs Q E hr h => ?_)
  · obtain ⟨v, u, a, b, rfl, _⟩ := h
    rfl
  · obtain ⟨v, u, a, b, rfl, ⟨tw, rfl, hw⟩, ⟨to, rfl, ho⟩, la, lb, k⟩ := h
    refine ⟨_, pss_cons (ps_set (i := 2) scFew.nd rfl (Or.inl rfl) (pe_listRg rfl (by rfl) T.list (prg_1 (by rfl) T.range (pe_op op_add (pe_callB call_len_seq (by rfl) T.len PySem.boot_len (pa_cons (pv 1) pa_nil)) pe_int))))
      (pss_cons (ps_for PassesOwn.never rfl (pi_range1 (by rfl) T.range (pa_cons (pe_callB call_len_seq (by rfl) T.len PySem.boot_len (pa_cons (pv 0) pa_nil)) pa_nil)) (pg_name (i := 3) scFew.nd rfl (Or.inl rfl))
        (pss_cons (ps_set (i := 4) scFew.nd rfl (Or.inl rfl) (pe_lst (pa_cons (pe_op op_add (pv 3) pe_int) pa_nil)))
        (pss_cons (ps_for PassesOwn.never rfl (pi_range1 (by rfl) T.range (pa_cons (pe_callB call_len_seq (by rfl) T.len PySem.boot_len (pa_cons (pv 1) pa_nil)) pa_nil)) (pg_name (i := 5) scFew.nd rfl (Or.inl rfl))
          (pss_cons (ps_set (i := 6) scFew.nd rfl (Or.inl rfl) (pe_ifExp (pt_cmpR op_eq (pe_ix ix_tup (pv 0) (pv 3) (fun _ _ => rfl)) (pe_ix ix_tup (pv 1) (pv 5) (fun _ _ => rfl)) (nomark _)) (pe_ix ix_list (pv 2) (pv 5) (fun _ _ => rfl)) (pe_op op_add (pe_ix ix_list (pv 2) (pv 5) (fun _ _ => rfl)) pe_int)))
          (pss_one (ps_expr (pe_bm PySem.F.plainAttrs_list PySem.F.slot_list_append PySem.F.type_list_append mt_append (pv 4) (pa_cons
            (pe_callB (call_min3Nu rfl) (by rfl) T.min (by decide +kernel) (pa_cons (pv 6) (pa_cons (pe_op op_add (pe_ix ix_list (pv 2) (pe_op op_add (pv 5) pe_int) (fun _ _ => rfl)) pe_int) (pa_cons (pe_op op_add (pe_ix ix_list (pv 4) (pv 5) (fun _ _ => rfl)) pe_int) pa_nil)))) pa_nil))))))
        (pss_one (ps_set (i := 2) scFew.nd rfl (Or.inl rfl) (pv 4))))))
      (pss_one (ps_ret (pe_ix ix_list (pv 2) (pe_callB call_len_seq (by rfl) T.len PySem.boot_len (pa_cons (pv 1) pa_nil)) (fun _ _ => rfl))))), ?_⟩
    have b1 : ((b.length : Int) + 1) ≤ 1001 := by omega
    refine ⟨_, rfl, to, _, rfl, .inr (SqT.of ho), _, _, rfl, rfl, _, rfl, ⟨by decide, by decide, ?_, ?_, ?_⟩, fun p0 np0 => ?_⟩
    · rw [wv_len]; omega
    · rw [wv_len]; omega
    · rw [wv_len]; omega
    refine ⟨_, rfl, tw, _, rfl, .inr (SqT.of (same_new np0 _ _ hw)), _, rfl, ?_, ?_, ?_⟩
    · rw [wv_len]; omega
    · rw [wv_len]; omega
    have e0 : rgV 0 ((wv b).length + 1) = wv (trow a b 0) := by
      unfold rgV wv trow
      rw [List.map_map, List.length_map, show ((b.length : Int) + 1 - 0).toNat = b.length + 1 by omega]
      refine List.map_congr_left fun j _ => ?_
      show V.int (0 + (j : Int)) = V.int ((tab a b 0 j : Nat) : Int)
      rw [tab_zero, Int.zero_add]
    rw [e0]
    refine for_range (lo := 0) (n := ((wv a).length : Int).toNat) (fun i σ H' => ∃ (p : Addr) (x1 x2 x3 x4 : Option V), σ = [some (.ref tw), some (.ref to), some (.ref p), x1, x2, x3, x4] ∧ Same H H' ∧ H p = none ∧ H' p = some (.lst (wv (trow a b i)))) ⟨p0, _, _, _, _, rfl, same_new np0, np0, upd_same⟩ ?_ ?_
    · rintro i σ H' hi ⟨p, x1, x2, x3, x4, rfl, e1, np, hp⟩
      rw [wv_len] at hi
      have hi : i < a.length := by omega
      refine ⟨_, rfl, _, _, rfl, rfl, (by decide : 1 ≤ sizeLine), fun r nr => ?_⟩
      have npr : p ≠ r := ne_of_none hp nr
      refine ⟨_, rfl, to, _, rfl, .inr (SqT.of (same_new nr _ _ (e1 _ _ ho))), _, rfl, ?_, ?_, ?_⟩
      · rw [wv_len]; omega
      · rw [wv_len]; omega
      have nr0 : H r = none := e1.free nr
      refine for_range (lo := 0) (n := ((wv b).length : Int).toNat) (fun j σ H'' => ∃ (x3 x4 : Option V), σ = [some (.ref tw), some (.ref to), some (.ref p), some (.int (0 + (i : Int))), some (.ref r), x3, x4] ∧ Same H H'' ∧ H'' p = some (.lst (wv (trow a b i))) ∧ H'' r = some (.lst (wv ((trow a b (i + 1)).take (j + 1))))) ⟨_, _, rfl, e1.trans (same_new nr), ?_, ?_⟩ ?_ ?_
      · rw [upd_ne npr]; exact hp
      · rw [upd_same]
        have : (trow a b (i + 1)).take 1 = [i + 1] := by
          have g := trow_get a b (i + 1) 0 (Nat.zero_le _)
          rw [take_more g, List.take_zero, List.nil_append, tab_left]
        rw [this]
        show some (HO.lst [V.int (0 + (i : Int) + 1)]) = some (HO.lst [V.int ((i + 1 : Nat) : Int)])
        rw [show (0 + (i : Int) + 1) = ((i + 1 : Nat) : Int) by omega]
      · rintro j σ H'' hj ⟨x3, x4, rfl, e2, hp2, hr2⟩
        rw [wv_len] at hj
        have hj : j < b.length := by omega
        obtain ⟨x, hx⟩ : ∃ x, a[i]? = some x := ⟨a[i], List.getElem?_eq_getElem hi⟩
        obtain ⟨y, hy⟩ : ∃ y, b[j]? = some y := ⟨b[j], List.getElem?_eq_getElem hj⟩
        have g1 : atI (wv a) (0 + (i : Int)) = some (.int (x : Int)) := atZ (wv_get hx) (by omega)
        have g2 : atI (wv b) (0 + (j : Int)) = some (.int (y : Int)) := atZ (wv_get hy) (by omega)
        have g3 : atI (wv (trow a b i)) (0 + (j : Int)) = some (.int (tab a b i j : Nat)) := atZ (wv_get (trow_get a b i j (by omega))) (by omega)
        have g4 : atI (wv (trow a b i)) (0 + (j : Int) + 1) = some (.int (tab a b i (j + 1) : Nat)) := atZ (wv_get (trow_get a b i (j + 1) (by omega))) (by omega)
        have g5 : atI (wv ((trow a b (i + 1)).take (j + 1))) (0 + (j : Int)) = some (.int (tab a b (i + 1) j : Nat)) := atZ (j := j) (wv_get (by rw [List.getElem?_take, if_pos (by omega)]; exact trow_get a b (i + 1) j (by omega))) (by omega)
        have step := tab_step a b i j
        rw [hx, hy] at step
        have last : ∀ z : Int, z = ((tab a b i j + if some x = some y then 0 else 1 : Nat) : Int) → min (min z ((tab a b i (j + 1) : Nat) + 1)) ((tab a b (i + 1) j : Nat) + 1) = ((tab a b (i + 1) (j + 1) : Nat) : Int) := by
          intro z ez
          rw [ez, step]
          omega
        have len : (wv ((trow a b (i + 1)).take (j + 1))).length < sizeLine := by
          rw [wv_len]
          refine small_line ?_
          rw [List.length_take, trow_len]
          omega
        have more : (trow a b (i + 1)).take (j + 1 + 1) = (trow a b (i + 1)).take (j + 1) ++ [tab a b (i + 1) (j + 1)] := take_more (trow_get a b (i + 1) (j + 1) (by omega))
        refine ⟨_, rfl, _, rfl, tw, _, _, _, rfl, rfl, SqT.of (e2 _ _ hw), g1, _, rfl, _, rfl, to, _, _, _, rfl, rfl, SqT.of (e2 _ _ ho), g2, rfl, _, rfl, ?_⟩
        refine ite2 (fun c => ?_) (fun c => ?_)
        · have c : x = y := by have c := V.int.inj (of_decide_eq_true c); omega
          have m := last _ (by rw [c, if_pos rfl, Nat.add_zero])
          refine ⟨_, rfl, _, rfl, p, _, _, _, rfl, rfl, SqL.of hp2, g3, ?_⟩
          refine ⟨_, rfl, .inl ⟨rfl, _, SqL.of hr2⟩, _, rfl, _, rfl, _, rfl, _, _, rfl, rfl, p, _, _, _, rfl, rfl, SqL.of hp2, g4, _, _, rfl, rfl, _, rfl, _, rfl, r, _, _, _, rfl, rfl, SqL.of hr2, g5, _, _, rfl, rfl, _, _, _, _, rfl, min3 _ _ _, ?_⟩
          refine ⟨r, _, _, rfl, rfl, hr2, len, ?_⟩
          refine ⟨_, _, rfl, same_upd e2 nr0, by rw [upd_ne npr]; exact hp2, ?_⟩
          rw [upd_same, m, more, wv_snoc]
        · have c : ¬ x = y := fun z => c (decide_eq_true (by rw [z]))
          have m := last (((tab a b i j : Nat) : Int) + 1) (by rw [if_neg (fun z => c (Option.some.inj z))]; omega)
          refine ⟨_, rfl, _, rfl, p, _, _, _, rfl, rfl, SqL.of hp2, g3, _, _, rfl, rfl, ?_⟩
          refine ⟨_, rfl, .inl ⟨rfl, _, SqL.of hr2⟩, _, rfl, _, rfl, _, rfl, _, _, rfl, rfl, p, _, _, _, rfl, rfl, SqL.of hp2, g4, _, _, rfl, rfl, _, rfl, _, rfl, r, _, _, _, rfl, rfl, SqL.of hr2, g5, _, _, rfl, rfl, _, _, _, _, rfl, min3 _ _ _, ?_⟩
          refine ⟨r, _, _, rfl, rfl, hr2, len, ?_⟩
          refine ⟨_, _, rfl, same_upd e2 nr0, by rw [upd_ne npr]; exact hp2, ?_⟩
          rw [upd_same, m, more, wv_snoc]
      · rintro σ H'' ⟨x3, x4, rfl, e2, hp2, hr2⟩
        refine ⟨_, rfl, r, _, _, _, _, rfl, e2, nr0, ?_⟩
        rw [hr2, wv_len, List.take_of_length_le (by rw [trow_len]; omega)]
    · rintro σ H' ⟨p, x1, x2, x3, x4, rfl, e1, np, hp⟩
      rw [wv_len, show ((a.length : Int)).toNat = a.length by omega] at hp
      have g : atI (wv (trow a b a.length)) ((wv b).length : Int) = some (.int (Ut10.distance a b : Nat)) := by
        rw [distance_tab, wv_len]
        exact atI_nat (wv_get (trow_get a b a.length b.length (Nat.le_refl _)))
      exact ⟨_, rfl, _, rfl, to, _, rfl, .inr (SqT.of (e1 _ _ ho)), p, _, _, _, rfl, rfl, SqL.of hp, g, k _ e1⟩
/-! ### how_near -/
abbrev sNear : Stmt := top 12
def spNear : Sp := fun vs H Q _ => ∃ (v u : V) (a b : Sent), vs = [v, u] ∧ SentAt H v a ∧ SentAt H u b ∧ 0 < a.length ∧ a.length ≤ 1000 ∧ b.length ≤ 1000 ∧
  ∀ H', Same H H' → Q (.int (Ut10.near a b : Nat)) H'
theorem scNear : FnScope ["words", "others", "longer"] ["words", "others"] (defScope sNear) := ⟨rfl, rfl, rfl, by decide +kernel, rfl, by decide +kernel, by decide +kernel⟩
theorem ok_near {f : Addr} {fd : FuncData} (F : Fun K "how_near" "how_near" sNear f fd) (T : Txt mg) (D1 : Df P w K mg base "fewest_changes" 1 ["words", "others"] spFew) : FnOk P w K mg base CX0 2 f fd ["words", "others"] spNear := by
  refine F.ok scNear (fun vs H Q E h => ?_) (fun cdv A outer s H vs Q E hr h => ?_)
  · obtain ⟨v, u, a, b, rfl, _⟩ := h
    rfl
  · obtain ⟨v, u, a, b, rfl, hv, hu, la0, la, lb, k⟩ := h
    obtain ⟨tw, rfl, hw⟩ := id hv
    obtain ⟨to, rfl, ho⟩ := id hu
    refine ⟨_, pss_cons (ps_set (i := 2) scNear.nd rfl (Or.inl rfl) (pe_callB (call_max2 rfl) (by rfl) T.max (by decide +kernel) (pa_cons (pe_callB call_len_seq (by rfl) T.len PySem.boot_len (pa_cons (pv 0) pa_nil)) (pa_cons (pe_callB call_len_seq (by rfl) T.len PySem.boot_len (pa_cons (pv 1) pa_nil)) pa_nil))))
      (pss_one (ps_ret (pe_op op_fdiv (pe_op op_mul pe_int (pe_op op_sub (pv 2) (pe_df D1 hr (pa_cons (pv 0) (pa_cons (pv 1) pa_nil))))) (pv 2)))), ?_⟩
    refine ⟨_, rfl, tw, _, rfl, .inr (SqT.of hw), _, rfl, to, _, rfl, .inr (SqT.of ho), _, _, rfl, ?_⟩
    rw [wv_len, wv_len]
    have em : (if (b.length : Int) > a.length then (b.length : Int) else a.length) = ((max a.length b.length : Nat) : Int) := by
      by_cases c : (b.length : Int) > a.length
      · rw [if_pos c]; omega
      · rw [if_neg c]; omega
    rw [em]
    refine ⟨_, rfl, _, rfl, _, rfl, _, _, a, b, rfl, hv, hu, la, lb, fun H1 e1 => ?_⟩
    refine ⟨_, _, rfl, rfl, _, _, rfl, rfl, .inl ⟨by decide, by decide⟩, _, rfl, _, _, rfl, rfl, ⟨by omega, by omega⟩, ?_⟩
    have k := k H1 e1
    have en : ((Ut10.near a b : Nat) : Int) = 100 * (((max a.length b.length : Nat) : Int) - (Ut10.distance a b : Nat)) / ((max a.length b.length : Nat) : Int) := by
      unfold Ut10.near
      rw [if_neg (by omega)]
      have := distance_le a b
      rw [Int.natCast_ediv, Int.natCast_mul, Int.natCast_sub this]
      rfl
    rw [en] at k
    exact k
end
end Wc

namespace Wc
open PySem PySem.Spec PyProof.Rows L2
open Ut10 (Sent File Band)
theorem same_tup {K : PySem.W.Frag} {H H' : Hp} {a : Addr} {xs : List V} (e : Same H H') (h : SqT K H a xs) : SqT K H' a xs := by
  rcases h with (h | ⟨o, h⟩) | h
  · exact .inl (.inl (e _ _ h))
  · exact .inl (.inr ⟨o, e _ _ h⟩)
  · exact .inr h
/-- a band: a tuple of two numbers, made by the program or written at its top -/
def bv (b : Band) : List V := [.int (b.1 : Nat), .int (b.2 : Nat)]
def BandAt (K : PySem.W.Frag) (H : Hp) (v : V) (b : Band) : Prop := ∃ t, v = .ref t ∧ (H t = some (.tup (bv b)) ∨ SqT K (fun _ => none) t (bv b))
theorem BandAt.sq {K : PySem.W.Frag} {H : Hp} {v : V} {b : Band} (h : BandAt K H v b) : ∃ t, v = .ref t ∧ SqT K H t (bv b) := by
  obtain ⟨t, rfl, ht | ht⟩ := h
  · exact ⟨t, rfl, SqT.of ht⟩
  · exact ⟨t, rfl, same_tup (fun b o z => by cases z) ht⟩
theorem BandAt.same {K : PySem.W.Frag} {H H' : Hp} {v : V} {b : Band} (e : Same H H') (h : BandAt K H v b) : BandAt K H' v b := by
  obtain ⟨t, rfl, ht | ht⟩ := h
  · exact ⟨t, rfl, .inl (e _ _ ht)⟩
  · exact ⟨t, rfl, .inr ht⟩
structure BandsAt (K : PySem.W.Frag) (H : Hp) (vs : List V) (bs : List Band) : Prop where
  len : vs.length = bs.length
  get : ∀ (i : Nat) (v : V), vs[i]? = some v → ∃ b, bs[i]? = some b ∧ BandAt K H v b
theorem BandsAt.same {K : PySem.W.Frag} {H H' : Hp} {vs : List V} {bs : List Band} (e : Same H H') (h : BandsAt K H vs bs) : BandsAt K H' vs bs :=
  ⟨h.len, fun i v hi => by
    obtain ⟨s, h1, h2⟩ := h.get i v hi
    exact ⟨s, h1, h2.same e⟩⟩
theorem BandsAt.of {K : PySem.W.Frag} {H : Hp} {vs : List V} {bs : List Band} (h : BandsAt K H vs bs) {i : Nat} {b : Band} (hi : bs[i]? = some b) : ∃ t, vs[i]? = some (.ref t) ∧ SqT K H t (bv b) := by
  have hl : i < bs.length := (List.getElem?_eq_some_iff.mp hi).1
  have hv : vs[i]? = some (vs[i]'(by rw [h.len]; exact hl)) := List.getElem?_eq_getElem _
  obtain ⟨c, h1, h4⟩ := h.get i _ hv
  obtain ⟨t, h2, h3⟩ := h4.sq
  rw [hi] at h1
  cases h1
  exact ⟨t, by rw [hv, h2], h3⟩
section
variable {P : Program} {w : World} {K : PySem.W.Frag} {mg : Str → Option Value} {base : Heap}
/-! ### is_right_band -/
abbrev sRightB : Stmt := top 34
def bandOk (b : Band) : Bool := decide (b.1 ≤ 100) && decide (b.2 ≤ 100)
def spRightB (K : PySem.W.Frag) : Sp := fun vs H Q _ => ∃ (v : V) (b : Band), vs = [v] ∧ BandAt K H v b ∧ Q (.bl (bandOk b)) H
theorem scRightB : FnScope ["band"] ["band"] (defScope sRightB) := ⟨rfl, rfl, rfl, by decide +kernel, rfl, by decide +kernel, by decide +kernel⟩
theorem ok_rightB {f : Addr} {fd : FuncData} (F : Fun K "is_right_band" "is_right_band" sRightB f fd) (T : Txt mg) : FnOk P w K mg base CX0 1 f fd ["band"] (spRightB K) := by
  refine F.ok scRightB (fun vs H Q E h => ?_) (fun cdv A outer s H vs Q E hr h => ?_)
  · obtain ⟨v, b, rfl, _⟩ := h
    rfl
  · obtain ⟨v, b, rfl, hv, k⟩ := h
    obtain ⟨t, rfl, ht⟩ := hv.sq
    refine ⟨_, pss_one (ps_ret (pe_and (pe_cmpR op_le (pe_ix ix_tup (pv 0) pe_int (fun _ _ => rfl)) (pe_cst T.cRate) (nomark _))
      (pe_one (pe_cmpR op_le (pe_ix ix_tup (pv 0) pe_int (fun _ _ => rfl)) (pe_cst T.cRate) (nomark _))))), ?_⟩
    refine ⟨_, rfl, t, _, _, _, rfl, rfl, ht, rfl, _, _, rfl, rfl, _, rfl, ?_⟩
    by_cases c : b.1 ≤ 100
    · rw [decide_eq_true (by omega : ((b.1 : Nat) : Int) ≤ 100)]
      refine iteT ⟨_, rfl, t, _, _, _, rfl, rfl, ht, rfl, _, _, rfl, rfl, ?_⟩
      have e : bandOk b = decide (((b.2 : Nat) : Int) ≤ 100) := by
        unfold bandOk
        rw [decide_eq_true c, Bool.true_and]
        exact decide_eq_decide.mpr (by omega)
      rw [e] at k
      exact k
    · rw [decide_eq_false (by omega : ¬ ((b.1 : Nat) : Int) ≤ 100)]
      refine iteF ?_
      have e : bandOk b = false := by
        unfold bandOk
        rw [decide_eq_false c, Bool.false_and]
      rw [e] at k
      exact k
/-! ### are_falling -/
abbrev sFalling : Stmt := top 35
def spFalling (K : PySem.W.Frag) : Sp := fun vs H Q _ => ∃ (a : Addr) (xs : List V) (bs : List Band), vs = [.ref a] ∧ SqL K H a xs ∧ BandsAt K H xs bs ∧ bs.length ≤ 1000 ∧ Q (.bl (Ut10.falling bs)) H
theorem scFalling : FnScope ["bands", "k"] ["bands"] (defScope sFalling) := ⟨rfl, rfl, rfl, by decide +kernel, rfl, by decide +kernel, by decide +kernel⟩
theorem ok_falling {f : Addr} {fd : FuncData} (F : Fun K "are_falling" "are_falling" sFalling f fd) (T : Txt mg) : FnOk P w K mg base CX0 1 f fd ["bands"] (spFalling K) := by
  refine F.ok scFalling (fun vs H Q E h => ?_) (fun cdv A outer s H vs Q E hr h => ?_)
  · obtain ⟨v, b, _, rfl, _⟩ := h
    rfl
  · obtain ⟨a, xs, bs, rfl, ha, hb, hlen, k⟩ := h
    refine ⟨_, pss_cons (ps_for PassesOwn.never rfl (pi_range2 (by rfl) T.range (pa_cons pe_int (pa_cons (pe_callB call_len_seq (by rfl) T.len PySem.boot_len (pa_cons (pv 0) pa_nil)) pa_nil))) (pg_name (i := 1) scFalling.nd rfl (Or.inl rfl))
        (pss_one (ps_if (pt_cmpR op_ge (pe_ix ix_tup (pe_ix ix_list (pv 0) (pv 1) (fun _ _ => rfl)) pe_int (fun _ _ => rfl)) (pe_ix ix_tup (pe_ix ix_list (pv 0) (pe_op op_sub (pv 1) pe_int) (fun _ _ => rfl)) pe_int (fun _ _ => rfl)) (nomark _)) (pss_one (ps_ret pe_bl)) pss_nil)))
      (pss_one (ps_ret pe_bl)), ?_⟩
    refine ⟨_, rfl, a, _, rfl, .inl ha, 1, _, rfl, ⟨by decide, by decide, by omega, ?_⟩, ?_⟩
    · rw [hb.len]; have : (bs.length : Int) ≤ 1000 := by omega
      exact Int.lt_of_le_of_lt this (by decide)
    refine for_range (lo := 1) (n := ((xs.length : Int) - 1).toNat) (fun i σ H' => H' = H ∧ (∃ v, σ = [some (.ref a), v]) ∧ ∀ j x y, j < i → bs[j]? = some x → bs[j + 1]? = some y → y.1 < x.1) ⟨rfl, ⟨_, rfl⟩, fun j x y z => by omega⟩ ?_ ?_
    · rintro i σ H' hi ⟨rfl, ⟨v, rfl⟩, hf⟩
      rw [hb.len] at hi
      obtain ⟨x, hx⟩ : ∃ x, bs[i]? = some x := ⟨bs[i]'(by omega), List.getElem?_eq_getElem _⟩
      obtain ⟨y, hy⟩ : ∃ y, bs[i + 1]? = some y := ⟨bs[i + 1]'(by omega), List.getElem?_eq_getElem _⟩
      obtain ⟨tx, hx1, hx2⟩ := hb.of hx
      obtain ⟨ty, hy1, hy2⟩ := hb.of hy
      have ey : atI xs (1 + (i : Int)) = some (.ref ty) := by
        have := atI_nat hy1
        rw [show ((i + 1 : Nat) : Int) = 1 + (i : Int) by omega] at this
        exact this
      have ex : atI xs (1 + (i : Int) - 1) = some (.ref tx) := by
        have := atI_nat hx1
        rw [show (i : Int) = 1 + (i : Int) - 1 by omega] at this
        exact this
      refine ⟨_, rfl, _, rfl, a, _, _, _, rfl, rfl, ha, ey, ty, _, _, _, rfl, rfl, hy2, rfl, _, rfl, _, rfl, _, _, rfl, rfl, a, _, _, _, rfl, rfl, ha, ex, tx, _, _, _, rfl, rfl, hx2, rfl, _, _, rfl, rfl, _, rfl, ?_⟩
      refine ite2 (fun c => ?_) (fun c => ?_)
      · have c := of_decide_eq_true c
        have e : Ut10.falling bs = false := by
          rw [← Bool.not_eq_true, falling_iff]
          intro z
          have := z i x y hx hy
          omega
        rw [e] at k
        exact k
      · have c : ¬ (((x.1 : Nat) : Int) ≤ (y.1 : Nat)) := fun z => c (decide_eq_true z)
        refine ⟨rfl, ⟨_, rfl⟩, fun j x' y' hj hx' hy' => ?_⟩
        by_cases e : j = i
        · subst e
          rw [hx] at hx'
          rw [hy] at hy'
          cases hx'
          cases hy'
          omega
        · exact hf j x' y' (by omega) hx' hy'
    · rintro σ H' ⟨rfl, ⟨v, rfl⟩, hf⟩
      have e : Ut10.falling bs = true := by
        rw [falling_iff]
        intro j x y hx hy
        have := (List.getElem?_eq_some_iff.mp hy).1
        refine hf j x y ?_ hx hy
        rw [hb.len]; omega
      rw [e] at k
      exact k
end
end Wc

namespace Wc
open PySem PySem.Spec PyProof.Rows L2
open Ut10 (Sent File Band)
section
variable {P : Program} {w : World} {K : PySem.W.Frag} {mg : Str → Option Value} {base : Heap}
/-! ### are_right_bands -/
abbrev sRightBs : Stmt := top 36
def bandsOk (bs : List Band) : Bool := decide (bs.length ≤ 4) && (bs.all bandOk && Ut10.falling bs)
def spRightBs (K : PySem.W.Frag) : Sp := fun vs H Q _ => ∃ (a : Addr) (xs : List V) (bs : List Band), vs = [.ref a] ∧ SqL K H a xs ∧ BandsAt K H xs bs ∧ bs.length ≤ 1000 ∧ ∀ H', Same H H' → Q (.bl (bandsOk bs)) H'
theorem scRightBs : FnScope ["bands", "band"] ["bands"] (defScope sRightBs) := ⟨rfl, rfl, rfl, by decide +kernel, rfl, by decide +kernel, by decide +kernel⟩
theorem ok_rightBs {f : Addr} {fd : FuncData} (F : Fun K "are_right_bands" "are_right_bands" sRightBs f fd) (T : Txt mg) (D1 : Df P w K mg base "is_right_band" 1 ["band"] (spRightB K)) (D2 : Df P w K mg base "are_falling" 1 ["bands"] (spFalling K)) :
    FnOk P w K mg base CX0 3 f fd ["bands"] (spRightBs K) := by
  refine F.ok scRightBs (fun vs H Q E h => ?_) (fun cdv A outer s H vs Q E hr h => ?_)
  · obtain ⟨a, xs, ss, rfl, _⟩ := h
    rfl
  · obtain ⟨a, xs, bs, rfl, ha, hb, hlen, k⟩ := h
    refine ⟨_, pss_cons (ps_if (pt_cmpR op_gt (pe_callB call_len_seq (by rfl) T.len PySem.boot_len (pa_cons (pv 0) pa_nil)) (pe_cst T.cBands) (nomark _)) (pss_one (ps_ret pe_bl)) pss_nil)
      (pss_one (ps_ret (pe_and (pe_callB (cr_all rfl) (by rfl) T.all (by decide +kernel) (pa_cons
        (pe_lc (own := [("band", 1)]) (g := gName 1) (tt := tYes) rfl scRightBs.nd (pi_list (pv 0)) (blkOk_by (N := ["bands", "band"]) (sc := defScope sRightBs) (by decide +kernel))
          (fun _ _ _ _ _ => pg_name (i := 1) scRightBs.nd rfl (Or.inl rfl)) (fun _ _ _ _ _ => pts_nil) (fun _ _ _ _ _ => pe_df D1 (hr.mono (by decide)) (pa_cons (pv 1) pa_nil))) pa_nil))
        (pe_one (pe_df D2 (hr.mono (by decide)) (pa_cons (pv 0) pa_nil)))))), ?_⟩
    refine ⟨_, rfl, a, _, rfl, .inl ha, _, _, rfl, rfl, _, rfl, ?_⟩
    refine ite2 (fun c => ?_) (fun c => ?_)
    · have c := of_decide_eq_true c
      rw [hb.len] at c
      have k := k H (Same.refl H)
      unfold bandsOk at k
      rw [decide_eq_false (by omega : ¬ bs.length ≤ 4)] at k
      exact k
    · have c : ¬ ((4 : Int) < xs.length) := fun z => c (decide_eq_true z)
      rw [hb.len] at c
      refine ⟨_, rfl, a, rfl, ⟨_, ha⟩, fun D nD => lc_list (K := K) (a := a) (xs := xs) (fun i H' => ∃ H0, Same H H0 ∧ H' = upd H0 D (.lst ((bs.take i).map fun s => V.bl (bandOk s)))) ?_ ?_ ?_ ?_⟩
      · exact ⟨H, Same.refl H, rfl⟩
      · rintro i H' _ ⟨H0, s0, rfl⟩
        exact (same_upd s0 nD).seq ha
      · rintro i x H' hi ⟨H0, s0, rfl⟩
        obtain ⟨z, hz, hzz⟩ := hb.get i x hi
        refine ⟨rfl, _, rfl, x, z, rfl, hzz.same (same_upd s0 nD), ?_⟩
        refine ⟨_, upd_same, ?_, H0, s0, ?_⟩
        · rw [List.length_map, List.length_take]; exact Nat.lt_of_le_of_lt (Nat.le_trans (Nat.min_le_right ..) hlen) (by decide)
        · rw [upd_upd, take_more hz, List.map_append]; rfl
      · rintro H' ⟨H0, s0, rfl⟩
        rw [hb.len, List.take_length]
        refine ⟨D, bs.map bandOk, rfl, ?_, _, rfl, ?_⟩
        · rw [List.map_map]; exact SqL.of upd_same
        · have e : bandsOk bs = ((bs.map bandOk).all id && Ut10.falling bs) := by
            unfold bandsOk
            rw [decide_eq_true (by omega : bs.length ≤ 4), Bool.true_and, List.all_map]; rfl
          have k := k _ (same_upd (o := HO.lst (bs.map fun s => V.bl (bandOk s))) s0 nD)
          rw [e] at k
          cases c2 : (bs.map bandOk).all id with
          | false =>
            rw [c2] at k
            exact iteF k
          | true =>
            rw [c2] at k
            exact iteT ⟨_, rfl, a, xs, bs, rfl, (same_upd s0 nD).seq ha, hb.same (same_upd s0 nD), hlen, k⟩
/-- len, with the written part named: for a comprehension's block -/
def rLen (K : PySem.W.Frag) : List V → Hp → VK → Prop := fun xs H Q => ∃ p ys, xs = [.ref p] ∧ (SqL K H p ys ∨ SqT K H p ys) ∧ Q (.int ys.length) H
theorem call_lenK {X : Cx} {K : PySem.W.Frag} (e : X.K = K) : CallR X (.builtin "len") (rLen K) := by
  subst e
  exact call_len_seq
/-! ### count_words -/
abbrev sWords : Stmt := top 10
def spWords : Sp := fun vs H Q _ => ∃ (a : Addr) (xs : List V) (ss : List Sent), vs = [.ref a] ∧ H a = some (.lst xs) ∧ SentsAt H xs ss ∧ ss.length ≤ 1000 ∧
  ∀ H', Same H H' → Q (.int ((ss.map fun s => s.length).sum : Nat)) H'
theorem scWords : FnScope ["sentences", "words"] ["sentences"] (defScope sWords) := ⟨rfl, rfl, rfl, by decide +kernel, rfl, by decide +kernel, by decide +kernel⟩
theorem sum_cast (l : List Nat) : (l.map fun n : Nat => (n : Int)).sum = (l.sum : Nat) := by
  induction l with
  | nil => rfl
  | cons x l ih => rw [List.map_cons, List.sum_cons, ih, List.sum_cons]; omega
theorem ok_words {f : Addr} {fd : FuncData} (F : Fun K "count_words" "count_words" sWords f fd) (T : Txt mg) : FnOk P w K mg base CX0 1 f fd ["sentences"] spWords := by
  refine F.ok scWords (fun vs H Q E h => ?_) (fun cdv A outer s H vs Q E hr h => ?_)
  · obtain ⟨a, xs, ss, rfl, _⟩ := h
    rfl
  · obtain ⟨a, xs, ss, rfl, ha, hs, hlen, k⟩ := h
    refine ⟨_, pss_one (ps_ret (pe_callB (cr_sum rfl) (by rfl) T.sum (by decide +kernel) (pa_cons
        (pe_lc (own := [("words", 1)]) (g := gName 1) (tt := tYes) rfl scWords.nd (pi_list (pv 0)) (blkOk_by (N := ["sentences", "words"]) (sc := defScope sWords) (by decide +kernel))
          (fun _ _ _ _ _ => pg_name (i := 1) scWords.nd rfl (Or.inl rfl)) (fun _ _ _ _ _ => pts_nil) (fun _ _ _ _ _ => pe_callB (call_lenK (K := K) rfl) (by rfl) T.len PySem.boot_len (pa_cons (pv 1) pa_nil))) pa_nil))), ?_⟩
    refine ⟨_, rfl, a, rfl, ⟨_, SqL.of ha⟩, fun D nD => lc_list (K := K) (a := a) (xs := xs) (fun i H' => H' = upd H D (.lst ((ss.take i).map fun s => V.int (s.length : Nat)))) ?_ ?_ ?_ ?_⟩
    · rfl
    · rintro i H' _ rfl
      exact SqL.of (same_new nD _ _ ha)
    · rintro i x H' hi rfl
      obtain ⟨z, hz, t, rfl, ht⟩ := hs.get i x hi
      refine ⟨rfl, _, rfl, t, _, rfl, .inr (SqT.of (same_new nD _ _ ht)), ?_⟩
      refine ⟨_, upd_same, ?_, ?_⟩
      · rw [List.length_map, List.length_take]; exact Nat.lt_of_le_of_lt (Nat.le_trans (Nat.min_le_right ..) hlen) (by decide)
      · rw [upd_upd, take_more hz, List.map_append, wv_len]; rfl
    · rintro H' rfl
      rw [hs.len, List.take_length]
      refine ⟨D, (ss.map fun s => s.length).map (fun n : Nat => (n : Int)), rfl, ?_, ?_⟩
      · rw [List.map_map, List.map_map]; exact SqL.of upd_same
      · rw [sum_cast]
        exact k _ (same_new nD)
end
end Wc

namespace Wc
open PySem PySem.Spec PyProof.Rows L2
open Ut10 (Sent File Band)
/-! ### sentences as data -/
def dI (l : List Nat) : List PyData := l.map fun n : Nat => PyData.int (n : Int)
def dS (s : Sent) : PyData := .tuple (dI s)
theorem dp_ints {K : PySem.W.Frag} {H : Hp} : ∀ l : List Nat, DpAll K H (wv l) (dI l)
  | [] => .nil
  | n :: l => .cons (.int n) (dp_ints l)
theorem SentAt.dp {K : PySem.W.Frag} {H : Hp} {v : V} {s : Sent} (h : SentAt H v s) : Dp K H v (dS s) := by
  obtain ⟨t, rfl, ht⟩ := h
  exact .tup (SqT.of ht) (dp_ints s)
theorem eqv_ints : ∀ a b : List Nat, PyData.eqvAll (dI a) (dI b) = decide (a = b)
  | [], [] => by simp [dI, PyData.eqvAll]
  | [], _ :: _ => by simp [dI, PyData.eqvAll]
  | _ :: _, [] => by simp [dI, PyData.eqvAll]
  | x :: a, y :: b => by
    have ih := eqv_ints a b
    unfold dI at ih ⊢
    simp only [List.map_cons, PyData.eqvAll, PyData.eqv, ih]
    by_cases h : x = y
    · subst h; simp
    · have h2 : ¬ ((x : Int) = (y : Int)) := by omega
      simp [h, h2]
theorem eqv_dS (a b : Sent) : PyData.eqv (dS a) (dS b) = decide (a = b) := by
  unfold dS
  simp only [PyData.eqv]
  exact eqv_ints a b
theorem lay_ints : ∀ l : List Nat, PyData.canLayAll0 (dI l) = true
  | [] => rfl
  | n :: l => by
    have ih := lay_ints l
    unfold dI at ih ⊢
    simp only [List.map_cons, PyData.canLayAll0, PyData.canLay0, ih]
    rfl
theorem depth_ints : ∀ l : List Nat, PyData.depthAll (dI l) = 0
  | [] => rfl
  | n :: l => by
    have ih := depth_ints l
    unfold dI at ih ⊢
    simp only [List.map_cons, PyData.depthAll, PyData.depth, ih]
    rfl
theorem lay_sents : ∀ l : List Sent, PyData.canLayAll0 (l.map dS) = true
  | [] => rfl
  | s :: l => by
    have ih := lay_sents l
    simp only [List.map_cons, PyData.canLayAll0, dS, PyData.canLay0, ih, lay_ints]
    rfl
theorem depth_sents : ∀ l : List Sent, PyData.depthAll (l.map dS) ≤ 1
  | [] => Nat.zero_le _
  | s :: l => by
    have ih := depth_sents l
    simp only [List.map_cons, PyData.depthAll, dS, PyData.depth, depth_ints]
    exact Nat.max_le.mpr ⟨Nat.le_refl _, ih⟩
theorem shaped_dS (s : Sent) : SeqAt.shaped (dS s) = true := by
  unfold SeqAt.shaped dS
  simp only [PyData.canLay0, PyData.depth, lay_ints, depth_ints]
  rfl
theorem shaped_sents (l : List Sent) : SeqAt.shaped (.list (l.map dS)) = true := by
  unfold SeqAt.shaped
  have h := depth_sents l
  simp only [PyData.canLay0, PyData.depth, lay_sents, Bool.true_and]
  exact decide_eq_true (by omega)
theorem any_dS (l : List Sent) (s : Sent) : ((l.map dS).any fun z => PyData.eqv z (dS s)) = l.contains s := by
  rw [List.any_map, Bool.eq_iff_iff, List.any_eq_true]
  simp only [Function.comp, eqv_dS, List.contains_iff_mem, decide_eq_true_eq]
  constructor
  · rintro ⟨x, hx, rfl⟩; exact hx
  · intro h; exact ⟨s, h, rfl⟩
theorem SentsAt.dpAll {K : PySem.W.Frag} {H : Hp} : ∀ {vs : List V} {ss : List Sent}, SentsAt H vs ss → DpAll K H vs (ss.map dS)
  | [], [], _ => .nil
  | [], _ :: _, h => by cases h.len
  | _ :: _, [], h => by cases h.len
  | v :: vs, s :: ss, h => by
    obtain ⟨x, hx, hv⟩ := h.get 0 v rfl
    have e : s = x := Option.some.inj hx
    subst e
    refine .cons hv.dp (SentsAt.dpAll ⟨?_, fun i u hi => h.get (i + 1) u hi⟩)
    have := h.len
    simpa using this
section
variable {P : Program} {w : World} {K : PySem.W.Frag} {mg : Str → Option Value} {base : Heap}
/-! ### with_unknown -/
abbrev sGrow : Stmt := top 37
def spGrow : Sp := fun vs H Q _ => ∃ (a b : Addr) (xs ys : List V) (m ss : List Sent), vs = [.ref a, .ref b] ∧ H a = some (.lst xs) ∧ SentsAt H xs m ∧ H b = some (.lst ys) ∧ SentsAt H ys ss ∧ m.length ≤ 1000 ∧ ss.length ≤ 1000 ∧
  ∀ (H' : Hp) (p : Addr) (zs : List V), Same H H' → H p = none → H' p = some (.lst zs) → SentsAt H' zs (grown m ss) → Q (.ref p) H'
theorem scGrow : FnScope ["memory", "sentences", "grown", "words"] ["memory", "sentences"] (defScope sGrow) := ⟨rfl, rfl, rfl, by decide +kernel, rfl, by decide +kernel, by decide +kernel⟩
theorem grown_len (m ss : List Sent) : (grown m ss).length ≤ m.length + ss.length := by
  refine snoc_ind (P := fun ss => (grown m ss).length ≤ m.length + ss.length) (Nat.le_refl _) (fun l s ih => ?_) ss
  rw [grown_snoc]
  unfold grow
  split
  · rw [List.length_append]; omega
  · rw [List.length_append, List.length_append]; simp; omega
theorem ok_grow {f : Addr} {fd : FuncData} (F : Fun K "with_unknown" "with_unknown" sGrow f fd) (T : Txt mg) : FnOk P w K mg base CX0 1 f fd ["memory", "sentences"] spGrow := by
  refine F.ok scGrow (fun vs H Q E h => ?_) (fun cdv A outer s H vs Q E hr h => ?_)
  · obtain ⟨a, b, xs, ys, m, ss, rfl, _⟩ := h
    rfl
  · obtain ⟨a, b, xs, ys, m, ss, rfl, ha, hm, hb, hs, hlm, hls, k⟩ := h
    have hu : (A.deeper (envOfC "with_unknown" (defScope sGrow) s.heap.objs.size f cdv)).units + 65 < cLine := by have := hr.un; omega
    refine ⟨_, pss_cons (ps_set (i := 2) scGrow.nd rfl (Or.inl rfl) (pe_callTy call_list_of (by rfl) T.list (by decide +kernel) (pa_cons (pv 0) pa_nil)))
      (pss_cons (ps_for PassesOwn.never rfl (pi_list (pv 1)) (pg_name (i := 3) scGrow.nd rfl (Or.inl rfl))
        (pss_one (ps_if (pt_cmpR (op_notInD hu) (pv 3) (pv 2) (by rfl))
          (pss_one (ps_expr (pe_bm PySem.F.plainAttrs_list PySem.F.slot_list_append PySem.F.type_list_append mt_append (pv 2) (pa_cons (pv 3) pa_nil)))) pss_nil)))
      (pss_one (ps_ret (pv 2)))), ?_⟩
    refine ⟨_, rfl, a, _, rfl, .inl (SqL.of ha), fun p np => ?_⟩
    refine ⟨_, rfl, b, rfl, ⟨_, SqL.of (same_new np _ _ hb)⟩, for_list (K := K) (a := b) (xs := ys) (fun i σ H' => ∃ (v : Option V) (zs : List V), σ = [some (.ref a), some (.ref b), some (.ref p), v] ∧ H' = upd H p (.lst zs) ∧ SentsAt H zs (grown m (ss.take i))) ?_ ?_ ?_ ?_⟩
    · exact ⟨none, xs, rfl, rfl, hm⟩
    · rintro i σ H' _ ⟨v, zs, rfl, rfl, _⟩
      exact SqL.of (same_new np _ _ hb)
    · rintro i x σ H' hi ⟨v, zs, rfl, rfl, hz⟩
      obtain ⟨z, hzi, hzz⟩ := hs.get i x hi
      refine ⟨_, rfl, _, rfl, dS z, (grown m (ss.take i)).map dS, (hzz.same (same_new np)).dp, .lst (SqL.of upd_same) (hz.same (same_new np)).dpAll, shaped_dS _, shaped_sents _, _, rfl, ?_⟩
      rw [any_dS]
      have ez : grown m (ss.take (i + 1)) = grow (grown m (ss.take i)) z := by rw [take_more hzi, grown_snoc]
      cases c : (grown m (ss.take i)).contains z with
      | true =>
        refine iteF ⟨_, zs, rfl, rfl, ?_⟩
        rw [ez]
        unfold grow
        rw [if_pos c]
        exact hz
      | false =>
        refine iteT ⟨_, rfl, .inl ⟨rfl, _, SqL.of upd_same⟩, _, rfl, p, _, _, rfl, rfl, upd_same, ?_, ?_⟩
        · have h1 := grown_len m (ss.take i)
          have h2 := hz.len
          have h3 : (ss.take i).length ≤ 1000 := by rw [List.length_take]; omega
          exact Nat.lt_of_le_of_lt (by omega : zs.length ≤ 2000) (by decide)
        · refine ⟨_, zs ++ [x], rfl, upd_upd, ?_⟩
          rw [ez]
          unfold grow
          rw [c, if_neg (by decide)]
          exact hz.snoc hzz
    · rintro σ H' ⟨v, zs, rfl, rfl, hz⟩
      rw [hs.len, List.take_length] at hz
      exact ⟨_, rfl, k _ p zs (same_new np) np upd_same (hz.same (same_new np))⟩
end
end Wc

namespace Wc
open PySem PySem.Spec PyProof.Rows L2
open Ut10 (Sent File Band)
theorem ok_len {s : Sent} (h : Ut10.sentOk s = true) : 1 ≤ s.length ∧ s.length ≤ 10 := by
  rw [sentOk_eq, Bool.and_eq_true, Bool.and_eq_true] at h
  exact ⟨of_decide_eq_true h.1, of_decide_eq_true h.2.1⟩
theorem SentsAt.append {H : Hp} {vs us : List V} {ss ts : List Sent} (h : SentsAt H vs ss) (g : SentsAt H us ts) : SentsAt H (vs ++ us) (ss ++ ts) := by
  refine ⟨by rw [List.length_append, List.length_append, h.len, g.len], fun i u hi => ?_⟩
  by_cases c : i < vs.length
  · rw [List.getElem?_append_left c] at hi
    obtain ⟨x, h1, h2⟩ := h.get i u hi
    exact ⟨x, by rw [List.getElem?_append_left (by rw [← h.len]; exact c)]; exact h1, h2⟩
  · rw [List.getElem?_append_right (by omega)] at hi
    rw [List.getElem?_append_right (by rw [← h.len]; omega), ← h.len]
    exact g.get _ u hi
theorem SentsAt.at {H : Hp} {vs : List V} {ss : List Sent} (h : SentsAt H vs ss) {i : Nat} {s : Sent} (hi : ss[i]? = some s) : ∃ v, vs[i]? = some v ∧ SentAt H v s := by
  have hl : i < ss.length := (List.getElem?_eq_some_iff.mp hi).1
  have hv : vs[i]? = some (vs[i]'(by rw [h.len]; exact hl)) := List.getElem?_eq_getElem _
  obtain ⟨c, h1, h4⟩ := h.get i _ hv
  rw [hi] at h1
  cases h1
  exact ⟨_, hv, h4⟩
theorem u65 {k : Nat} {A : Around} (r : Room k A) : A.units + 65 < cLine := by have := r.un; omega
section
variable {P : Program} {w : World} {K : PySem.W.Frag} {mg : Str → Option Value} {base : Heap}
/-! ### nearest -/
abbrev sNst : Stmt := top 17
def spNst : Sp := fun vs H Q _ => ∃ (v : V) (a : Addr) (xs : List V) (s : Sent) (pool : List Sent), vs = [v, .ref a] ∧ SentAt H v s ∧ H a = some (.lst xs) ∧ SentsAt H xs pool ∧ pool.length ≤ 1000 ∧ Ut10.sentOk s = true ∧ (∀ x ∈ pool, Ut10.sentOk x = true) ∧
  ∀ H', Same H H' → Q (.int (nearV s pool)) H'
theorem scNst : FnScope ["words", "sentences", "others"] ["words", "sentences"] (defScope sNst) := ⟨rfl, rfl, rfl, by decide +kernel, rfl, by decide +kernel, by decide +kernel⟩
theorem ok_nst {f : Addr} {fd : FuncData} (F : Fun K "nearest" "nearest" sNst f fd) (T : Txt mg) (D1 : Df P w K mg base "how_near" 2 ["words", "others"] spNear) : FnOk P w K mg base CX0 4 f fd ["words", "sentences"] spNst := by
  refine F.ok scNst (fun vs H Q E h => ?_) (fun cdv A outer s0 H vs Q E hr h => ?_)
  · obtain ⟨v, a, xs, s, pool, rfl, _⟩ := h
    rfl
  · obtain ⟨v, a, xs, s, pool, rfl, hv, ha, hs, hlen, ok, oks, k⟩ := h
    have hu := hu_of hr
    refine ⟨_, pss_one (ps_ret (pe_callBK (cr_maxDef rfl hu) (by rfl) T.max (by decide +kernel) (pa_cons
        (pe_lc (own := [("others", 2)]) (g := gName 2) (tt := tYes) rfl scNst.nd (pi_list (pv 1)) (blkOk_by (N := ["words", "sentences", "others"]) (sc := defScope sNst) (by decide +kernel))
          (fun _ _ _ _ _ => pg_name (i := 2) scNst.nd rfl (Or.inl rfl)) (fun _ _ _ _ _ => pts_nil) (fun _ _ _ _ _ => pe_df D1 (hr.mono (by decide)) (pa_cons (pv 0) (pa_cons (pv 2) pa_nil)))) pa_nil)
        (pk_cons (pe_cst T.cNone) pk_nil))), ?_⟩
    refine ⟨_, rfl, a, rfl, ⟨_, SqL.of ha⟩, fun D nD => lc_list (K := K) (a := a) (xs := xs) (fun i H' => ∃ H0, Same H H0 ∧ H' = upd H0 D (.lst ((pool.take i).map fun x => V.int (Ut10.near s x : Nat)))) ?_ ?_ ?_ ?_⟩
    · exact ⟨H, Same.refl H, rfl⟩
    · rintro i H' _ ⟨H0, s0, rfl⟩
      exact SqL.of ((same_upd s0 nD) _ _ ha)
    · rintro i x H' hi ⟨H0, s0, rfl⟩
      obtain ⟨z, hz, hzz⟩ := hs.get i x hi
      have l1 := ok_len ok
      have l2 := ok_len (oks z (List.mem_of_getElem? hz))
      refine ⟨rfl, _, rfl, _, rfl, v, x, s, z, rfl, hv.same (same_upd s0 nD), hzz.same (same_upd s0 nD), by omega, by omega, by omega, fun H2 e2 => ?_⟩
      refine ⟨_, e2 _ _ upd_same, ?_, H2, (same_upd s0 nD).trans e2, ?_⟩
      · rw [List.length_map, List.length_take]; exact small_line (by omega)
      · rw [take_more hz, List.map_append]; rfl
    · rintro H' ⟨H0, s0, rfl⟩
      rw [hs.len, List.take_length]
      have em : (pool.map fun x => V.int (Ut10.near s x : Nat)) = ((pool.map (Ut10.near s)).map fun n : Nat => (n : Int)).map V.int := by
        rw [List.map_map, List.map_map]; rfl
      refine ⟨D, (pool.map (Ut10.near s)).map (fun n : Nat => (n : Int)), _, rfl, rfl, by rw [em]; exact SqL.of upd_same, fun e => ?_, fun m hm hle => ?_⟩
      · have k := k _ (same_upd (o := HO.lst (pool.map fun x => V.int (Ut10.near s x : Nat))) s0 nD)
        rw [List.map_eq_nil_iff, List.map_eq_nil_iff] at e
        subst e
        exact k
      · have k := k _ (same_upd (o := HO.lst (pool.map fun x => V.int (Ut10.near s x : Nat))) s0 nD)
        obtain ⟨n, hn, rfl⟩ := List.mem_map.mp hm
        have e : nearV s pool = (n : Int) := by
          have hp : ¬ pool = [] := fun z => by rw [z] at hn; cases hn
          rw [nearV_cons hp, topNear_is hn]
          intro y hy
          have := hle (y : Int) (List.mem_map.mpr ⟨y, hy, rfl⟩)
          omega
        rw [e] at k
        exact k
/-! ### kind_of -/
abbrev sKind : Stmt := top 18
def spKind (K : PySem.W.Frag) : Sp := fun vs H Q _ => ∃ (v : V) (aa am ab : Addr) (xa xm xb : List V) (s : Sent) (ah m : List Sent) (bs : List Band), vs = [v, .ref aa, .ref am, .ref ab] ∧ SentAt H v s ∧ H aa = some (.lst xa) ∧ SentsAt H xa ah ∧ H am = some (.lst xm) ∧ SentsAt H xm m ∧ SqL K H ab xb ∧ BandsAt K H xb bs ∧
  ah.length ≤ 500 ∧ m.length ≤ 500 ∧ bs.length ≤ 500 ∧ Ut10.sentOk s = true ∧ (∀ x ∈ ah, Ut10.sentOk x = true) ∧ (∀ x ∈ m, Ut10.sentOk x = true) ∧ ∀ H', Same H H' → Q (.int (Ut10.kindOf bs m ah s : Nat)) H'
theorem scKind : FnScope ["words", "ahead", "memory", "bands", "near", "k"] ["words", "ahead", "memory", "bands"] (defScope sKind) := ⟨rfl, rfl, rfl, by decide +kernel, rfl, by decide +kernel, by decide +kernel⟩
theorem ok_kind {f : Addr} {fd : FuncData} (F : Fun K "kind_of" "kind_of" sKind f fd) (T : Txt mg) (D1 : Df P w K mg base "nearest" 4 ["words", "sentences"] spNst) : FnOk P w K mg base CX0 5 f fd ["words", "ahead", "memory", "bands"] (spKind K) := by
  refine F.ok scKind (fun vs H Q E h => ?_) (fun cdv A outer s0 H vs Q E hr h => ?_)
  · obtain ⟨v, aa, am, ab, xa, xm, xb, s, ah, m, bs, rfl, _⟩ := h
    rfl
  · obtain ⟨v, aa, am, ab, xa, xm, xb, s, ah, m, bs, rfl, hv, haa, hsa, ham, hsm, hab, hsb, la, lm, lb, ok, oka, okm, k⟩ := h
    have hu := u65 hr
    refine ⟨_, pss_cons (ps_if (PW.pt (pw_and (pt_cmpR (op_inD hu) (pv 0) (pv 1) (by rfl)) (pw_and1 (pt_cmpR (op_notInD hu) (pv 0) (pv 2) (by rfl))))) (pss_one (ps_ret (pe_cst T.cRep))) pss_nil)
      (pss_cons (ps_set (i := 4) scKind.nd rfl (Or.inl rfl) (pe_df D1 hr (pa_cons (pv 0) (pa_cons (pe_op op_cat (pv 2) (pv 1)) pa_nil))))
      (pss_cons (ps_for PassesOwn.never rfl (pi_range1 (by rfl) T.range (pa_cons (pe_callB call_len_seq (by rfl) T.len PySem.boot_len (pa_cons (pv 3) pa_nil)) pa_nil)) (pg_name (i := 5) scKind.nd rfl (Or.inl rfl))
        (pss_one (ps_if (pt_cmpR op_le (pe_ix ix_tup (pe_ix ix_list (pv 3) (pv 5) (fun _ _ => rfl)) pe_int (fun _ _ => rfl)) (pv 4) (nomark _)) (pss_one (ps_ret (pe_op op_add (pv 5) pe_int))) pss_nil)))
      (pss_one (ps_ret (pe_op op_add (pe_callB call_len_seq (by rfl) T.len PySem.boot_len (pa_cons (pv 3) pa_nil)) pe_int))))), ?_⟩
    refine ⟨_, rfl, _, rfl, dS s, ah.map dS, hv.dp, .lst (SqL.of haa) hsa.dpAll, shaped_dS _, shaped_sents _, _, rfl, ?_⟩
    rw [any_dS]
    have both : (¬ (s ∈ ah ∧ ¬ s ∈ m)) ∨ (ah.contains s = true ∧ m.contains s = false) := by
      by_cases h1 : s ∈ ah
      · by_cases h2 : s ∈ m
        · exact .inl fun z => z.2 h2
        · exact .inr ⟨by simpa using h1, by simpa using h2⟩
      · exact .inl fun z => h1 z.1
    rcases both with nd | ⟨c1, c2⟩
    rotate_left
    · rw [c1]
      refine iteT ⟨_, rfl, _, rfl, dS s, m.map dS, hv.dp, .lst (SqL.of ham) hsm.dpAll, shaped_dS _, shaped_sents _, _, rfl, ?_⟩
      rw [any_dS, c2]
      have e : Ut10.kindOf bs m ah s = 0 := kind_again (by simpa using c1) (by simpa using c2)
      rw [e] at k
      exact iteT (k H (Same.refl H))
    cases c1 : ah.contains s with
    | true =>
      have c2 : m.contains s = true := by
        rw [← Bool.not_eq_false]
        intro z
        exact nd ⟨by simpa using c1, by simpa using z⟩
      refine iteT ⟨_, rfl, _, rfl, dS s, m.map dS, hv.dp, .lst (SqL.of ham) hsm.dpAll, shaped_dS _, shaped_sents _, _, rfl, ?_⟩
      rw [any_dS, c2]
      refine iteF ?_
      refine ⟨_, rfl, _, rfl, _, rfl, am, aa, xm, xa, rfl, rfl, ham, haa, Nat.le_of_lt (small_line (by rw [hsm.len, hsa.len]; omega)), fun p np => ?_⟩
      have e1 : Same H (upd H p (.lst (xm ++ xa))) := same_new np
      refine ⟨v, p, _, s, m ++ ah, rfl, hv.same e1, upd_same, (hsm.append hsa).same e1, by rw [List.length_append]; omega, ok, fun x hx => (List.mem_append.mp hx).elim (okm x) (oka x), fun H2 e2 => ?_⟩
      have e3 : Same H H2 := e1.trans e2
      refine ⟨_, rfl, ab, _, rfl, .inl (e3.seq hab), _, rfl, by omega, by rw [hsb.len]; omega, ?_⟩
      refine for_range (lo := 0) (n := ((xb.length : Int)).toNat) (fun i σ H' => H' = H2 ∧ (∃ x5, σ = [some v, some (.ref aa), some (.ref am), some (.ref ab), some (.int (nearV s (m ++ ah))), x5]) ∧ ∀ j c, j < i → bs[j]? = some c → ¬ ((c.1 : Nat) : Int) ≤ nearV s (m ++ ah)) ⟨rfl, ⟨_, rfl⟩, fun j c z => by omega⟩ ?_ ?_
      · rintro i σ H' hi ⟨rfl, ⟨x5, rfl⟩, hf⟩
        have hi : i < bs.length := by rw [hsb.len] at hi; omega
        obtain ⟨b, hb⟩ : ∃ b, bs[i]? = some b := ⟨bs[i], List.getElem?_eq_getElem hi⟩
        obtain ⟨tb, hb1, hb2⟩ := (hsb.same e3).of hb
        refine ⟨_, rfl, _, rfl, ab, _, _, _, rfl, rfl, e3.seq hab, atZ hb1 (by omega), tb, _, _, _, rfl, rfl, hb2, rfl, _, rfl, _, _, rfl, rfl, _, rfl, ?_⟩
        refine ite2 (fun c => ?_) (fun c => ?_)
        · have c := of_decide_eq_true c
          have e := kind_first nd hb c hf
          have k := k _ e3
          rw [e] at k
          rw [show ((i + 1 : Nat) : Int) = 0 + (i : Int) + 1 by omega] at k
          exact ⟨_, rfl, _, _, rfl, rfl, k⟩
        · have c : ¬ (((b.1 : Nat) : Int) ≤ nearV s (m ++ ah)) := fun z => c (decide_eq_true z)
          refine ⟨rfl, ⟨_, rfl⟩, fun j c' hj hc' => ?_⟩
          by_cases e : j = i
          · subst e
            rw [hb] at hc'
            cases hc'
            exact c
          · exact hf j c' (by omega) hc'
      · rintro σ H' ⟨rfl, ⟨x5, rfl⟩, hf⟩
        have e := kind_new nd fun j c hj => hf j c (by have := (List.getElem?_eq_some_iff.mp hj).1; rw [hsb.len]; omega) hj
        have k := k _ e3
        rw [e] at k
        rw [show ((bs.length + 1 : Nat) : Int) = (bs.length : Int) + 1 by omega, ← hsb.len] at k
        exact ⟨_, rfl, ab, _, rfl, .inl (e3.seq hab), _, _, rfl, rfl, k⟩
    | false =>
      refine iteF (iteF ?_)
      refine ⟨_, rfl, _, rfl, _, rfl, am, aa, xm, xa, rfl, rfl, ham, haa, Nat.le_of_lt (small_line (by rw [hsm.len, hsa.len]; omega)), fun p np => ?_⟩
      have e1 : Same H (upd H p (.lst (xm ++ xa))) := same_new np
      refine ⟨v, p, _, s, m ++ ah, rfl, hv.same e1, upd_same, (hsm.append hsa).same e1, by rw [List.length_append]; omega, ok, fun x hx => (List.mem_append.mp hx).elim (okm x) (oka x), fun H2 e2 => ?_⟩
      have e3 : Same H H2 := e1.trans e2
      refine ⟨_, rfl, ab, _, rfl, .inl (e3.seq hab), _, rfl, by omega, by rw [hsb.len]; omega, ?_⟩
      refine for_range (lo := 0) (n := ((xb.length : Int)).toNat) (fun i σ H' => H' = H2 ∧ (∃ x5, σ = [some v, some (.ref aa), some (.ref am), some (.ref ab), some (.int (nearV s (m ++ ah))), x5]) ∧ ∀ j c, j < i → bs[j]? = some c → ¬ ((c.1 : Nat) : Int) ≤ nearV s (m ++ ah)) ⟨rfl, ⟨_, rfl⟩, fun j c z => by omega⟩ ?_ ?_
      · rintro i σ H' hi ⟨rfl, ⟨x5, rfl⟩, hf⟩
        have hi : i < bs.length := by rw [hsb.len] at hi; omega
        obtain ⟨b, hb⟩ : ∃ b, bs[i]? = some b := ⟨bs[i], List.getElem?_eq_getElem hi⟩
        obtain ⟨tb, hb1, hb2⟩ := (hsb.same e3).of hb
        refine ⟨_, rfl, _, rfl, ab, _, _, _, rfl, rfl, e3.seq hab, atZ hb1 (by omega), tb, _, _, _, rfl, rfl, hb2, rfl, _, rfl, _, _, rfl, rfl, _, rfl, ?_⟩
        refine ite2 (fun c => ?_) (fun c => ?_)
        · have c := of_decide_eq_true c
          have e := kind_first nd hb c hf
          have k := k _ e3
          rw [e] at k
          rw [show ((i + 1 : Nat) : Int) = 0 + (i : Int) + 1 by omega] at k
          exact ⟨_, rfl, _, _, rfl, rfl, k⟩
        · have c : ¬ (((b.1 : Nat) : Int) ≤ nearV s (m ++ ah)) := fun z => c (decide_eq_true z)
          refine ⟨rfl, ⟨_, rfl⟩, fun j c' hj hc' => ?_⟩
          by_cases e : j = i
          · subst e
            rw [hb] at hc'
            cases hc'
            exact c
          · exact hf j c' (by omega) hc'
      · rintro σ H' ⟨rfl, ⟨x5, rfl⟩, hf⟩
        have e := kind_new nd fun j c hj => hf j c (by have := (List.getElem?_eq_some_iff.mp hj).1; rw [hsb.len]; omega) hj
        have k := k _ e3
        rw [e] at k
        rw [show ((bs.length + 1 : Nat) : Int) = (bs.length : Int) + 1 by omega, ← hsb.len] at k
        exact ⟨_, rfl, ab, _, rfl, .inl (e3.seq hab), _, _, rfl, rfl, k⟩
end
end Wc

namespace Wc
open PySem PySem.Spec PyProof.Rows L2
open Ut10 (Sent File Band)
/-! ### what a call leaves: tuples stay, lists stay (but the one that grows) -/
def Low (av : Addr) (H H' : Hp) : Prop := ∀ b o, H b = some o → ((∃ xs, o = HO.tup xs) ∨ (∃ xs, o = HO.lst xs ∧ b ≠ av) ∨ ∃ ob u, o = HO.frz ob u) → H' b = some o
theorem Low.refl {av : Addr} (H : Hp) : Low av H H := fun _ _ h _ => h
theorem Low.trans {av : Addr} {H H1 H2 : Hp} (a : Low av H H1) (b : Low av H1 H2) : Low av H H2 := fun c o h k => b c o (a c o h k) k
theorem Low.of {av : Addr} {H H' : Hp} (s : Same H H') : Low av H H' := fun b o h _ => s b o h
theorem Low.upd {av a : Addr} {H H1 : Hp} {o : HO} (s : Low av H H1) (h1 : ∀ xs, H a ≠ some (.tup xs)) (h2 : ∀ xs, H a = some (.lst xs) → a = av) (h3 : ∀ ob u, H a ≠ some (.frz ob u)) : Low av H (upd H1 a o) := fun b u e k => by
  by_cases c : b = a
  · subst c
    rcases k with ⟨xs, rfl⟩ | ⟨xs, rfl, hne⟩ | ⟨ob, u, rfl⟩
    · exact absurd e (h1 xs)
    · exact absurd (h2 xs e) hne
    · exact absurd e (h3 _ _)
  · rw [upd_ne c]
    exact s b u e k
theorem Low.upd_none {av a : Addr} {H H1 : Hp} {o : HO} (s : Low av H H1) (h : H a = none) : Low av H (L2.upd H1 a o) := s.upd (fun xs z => by rw [h] at z; cases z) (fun xs z => by rw [h] at z; cases z) (fun _ _ z => by rw [h] at z; cases z)
theorem Low.upd_ins {av a C dx : Addr} {H H1 : Hp} {o : HO} {fs : List (Str × V)} (s : Low av H H1) (h : H a = some (.ins C dx fs)) : Low av H (L2.upd H1 a o) := s.upd (fun xs z => by rw [h] at z; cases z) (fun xs z => by rw [h] at z; cases z) (fun _ _ z => by rw [h] at z; cases z)
theorem Low.upd_dk {av a : Addr} {H H1 : Hp} {o : HO} {kvs : List (Key × V)} (s : Low av H H1) (h : H a = some (.dK kvs)) : Low av H (L2.upd H1 a o) := s.upd (fun xs z => by rw [h] at z; cases z) (fun xs z => by rw [h] at z; cases z) (fun _ _ z => by rw [h] at z; cases z)
theorem Low.upd_av {av : Addr} {H H1 : Hp} {o : HO} {xs : List V} (s : Low av H H1) (h : H av = some (.lst xs)) : Low av H (L2.upd H1 av o) := s.upd (fun xs z => by rw [h] at z; cases z) (fun xs z => rfl) (fun _ _ z => by rw [h] at z; cases z)
/-- what a method leaves: all but two objects, an instance and a dict -/
theorem Low.two {av h d C dx : Addr} {H H' : Hp} {fs : List (Str × V)} {kvs : List (Key × V)} (h1 : H h = some (.ins C dx fs)) (h2 : H d = some (.dK kvs)) (k : ∀ b o, H b = some o → b ≠ h → b ≠ d → H' b = some o) : Low av H H' := fun b o e q => by
  refine k b o e (fun z => ?_) (fun z => ?_)
  · subst z
    rw [h1] at e
    cases e
    rcases q with ⟨xs, q⟩ | ⟨xs, q, _⟩ | ⟨ob, u, q⟩ <;> cases q
  · subst z
    rw [h2] at e
    cases e
    rcases q with ⟨xs, q⟩ | ⟨xs, q, _⟩ | ⟨ob, u, q⟩ <;> cases q
/-- all but one instance -/
theorem Low.one {av h C dx : Addr} {H H' : Hp} {fs : List (Str × V)} (h1 : H h = some (.ins C dx fs)) (k : ∀ b o, H b = some o → b ≠ h → H' b = some o) : Low av H H' := fun b o e q => by
  refine k b o e fun z => ?_
  subst z
  rw [h1] at e
  cases e
  rcases q with ⟨xs, q⟩ | ⟨xs, q, _⟩ | ⟨ob, u, q⟩ <;> cases q
theorem SentAt.low {av : Addr} {H H' : Hp} {v : V} {s : Sent} (e : Low av H H') (h : SentAt H v s) : SentAt H' v s := by
  obtain ⟨t, rfl, ht⟩ := h
  exact ⟨t, rfl, e _ _ ht (.inl ⟨_, rfl⟩)⟩
theorem SentsAt.low {av : Addr} {H H' : Hp} {vs : List V} {ss : List Sent} (e : Low av H H') (h : SentsAt H vs ss) : SentsAt H' vs ss :=
  ⟨h.len, fun i v hi => by
    obtain ⟨s, h1, h2⟩ := h.get i v hi
    exact ⟨s, h1, h2.low e⟩⟩
theorem BandAt.low {K : PySem.W.Frag} {av : Addr} {H H' : Hp} {v : V} {b : Band} (e : Low av H H') (h : BandAt K H v b) : BandAt K H' v b := by
  obtain ⟨t, rfl, ht | ht⟩ := h
  · exact ⟨t, rfl, .inl (e _ _ ht (.inl ⟨_, rfl⟩))⟩
  · exact ⟨t, rfl, .inr ht⟩
theorem BandsAt.low {K : PySem.W.Frag} {av : Addr} {H H' : Hp} {vs : List V} {bs : List Band} (e : Low av H H') (h : BandsAt K H vs bs) : BandsAt K H' vs bs :=
  ⟨h.len, fun i v hi => by
    obtain ⟨s, h1, h2⟩ := h.get i v hi
    exact ⟨s, h1, h2.low e⟩⟩
/-- a list of sentences that is not the one that grows -/
def ListAt (H : Hp) (av a : Addr) (ss : List Sent) : Prop := a ≠ av ∧ ∃ xs, H a = some (.lst xs) ∧ SentsAt H xs ss
theorem ListAt.low {av a : Addr} {H H' : Hp} {ss : List Sent} (e : Low av H H') (h : ListAt H av a ss) : ListAt H' av a ss := by
  obtain ⟨hne, xs, h1, h2⟩ := h
  exact ⟨hne, xs, e _ _ h1 (.inr (.inl ⟨_, rfl, hne⟩)), h2.low e⟩
def BListAt (K : PySem.W.Frag) (H : Hp) (av a : Addr) (bs : List Band) : Prop := a ≠ av ∧ ∃ xs, H a = some (.lst xs) ∧ BandsAt K H xs bs
theorem BListAt.low {K : PySem.W.Frag} {av a : Addr} {H H' : Hp} {bs : List Band} (e : Low av H H') (h : BListAt K H av a bs) : BListAt K H' av a bs := by
  obtain ⟨hne, xs, h1, h2⟩ := h
  exact ⟨hne, xs, e _ _ h1 (.inr (.inl ⟨_, rfl, hne⟩)), h2.low e⟩
/-- the list that was handed in: tracked, locked or written -/
def ReqAt (K : PySem.W.Frag) (H : Hp) (av a : Addr) (xs : List V) : Prop := (H a = some (.lst xs) ∧ a ≠ av) ∨ (∃ ob, H a = some (.frz ob (.lst xs))) ∨ SqL K (fun _ => none) a xs
theorem ReqAt.sq {K : PySem.W.Frag} {H : Hp} {av a : Addr} {xs : List V} (h : ReqAt K H av a xs) : SqL K H a xs := by
  rcases h with h | ⟨ob, h⟩ | h
  · exact SqL.of h.1
  · exact .inl (.inr ⟨ob, h⟩)
  · exact Same.seq (fun b o z => by cases z) h
theorem ReqAt.low {K : PySem.W.Frag} {H H' : Hp} {av a : Addr} {xs : List V} (e : Low av H H') (h : ReqAt K H av a xs) : ReqAt K H' av a xs := by
  rcases h with h | ⟨ob, h⟩ | h
  · exact .inl ⟨e _ _ h.1 (.inr (.inl ⟨_, rfl, h.2⟩)), h.2⟩
  · exact .inr (.inl ⟨ob, e _ _ h (.inr (.inr ⟨_, _, rfl⟩))⟩)
  · exact .inr (.inr h)
theorem ReqAt.of {K : PySem.W.Frag} {H : Hp} {av a : Addr} {xs : List V} (h : SqL K H a xs) (hv : H av = none) : ReqAt K H av a xs := by
  rcases h with (h | ⟨o, h⟩) | h
  · exact .inl ⟨h, ne_of_none h hv⟩
  · exact .inr (.inl ⟨o, h⟩)
  · exact .inr (.inr (.inr h))
/-- the dict of files -/
inductive FilesAt (H : Hp) (av : Addr) : List (Key × V) → List File → Prop
  | nil : FilesAt H av [] []
  | cons {a : Addr} {f : File} {kvs : List (Key × V)} {fs : List File} : ListAt H av a f.sents → FilesAt H av kvs fs → FilesAt H av ((Sum.inl (f.number : Int), .ref a) :: kvs) (f :: fs)
theorem FilesAt.low {av : Addr} {H H' : Hp} (e : Low av H H') : ∀ {kvs : List (Key × V)} {fs : List File}, FilesAt H av kvs fs → FilesAt H' av kvs fs
  | _, _, .nil => .nil
  | _, _, .cons h t => .cons (h.low e) (FilesAt.low e t)
theorem FilesAt.len {av : Addr} {H : Hp} : ∀ {kvs : List (Key × V)} {fs : List File}, FilesAt H av kvs fs → kvs.length = fs.length
  | _, _, .nil => rfl
  | _, _, .cons _ t => congrArg (· + 1) (FilesAt.len t)
theorem key_ne {a b : Nat} (h : ¬ a = b) : ¬ (Sum.inl (a : Int) : Key) = Sum.inl (b : Int) := fun z => h (by have := Sum.inl.inj z; omega)
theorem FilesAt.no {av : Addr} {H : Hp} {n : Nat} : ∀ {kvs : List (Key × V)} {fs : List File}, FilesAt H av kvs fs → (fs.find? fun f => f.number == n) = none → valV kvs (Sum.inl (n : Int)) = none
  | _, _, .nil, _ => rfl
  | _, f :: fs, .cons h t, e => by
    by_cases c : f.number = n
    · rw [List.find?_cons, beq_iff_eq.mpr c] at e; cases e
    · rw [List.find?_cons, beq_eq_false_iff_ne.mpr c] at e
      rw [valV_neg (key_ne c)]
      exact FilesAt.no t e
theorem FilesAt.yes {av : Addr} {H : Hp} {n : Nat} {g : File} : ∀ {kvs : List (Key × V)} {fs : List File}, FilesAt H av kvs fs → (fs.find? fun f => f.number == n) = some g → ∃ a, valV kvs (Sum.inl (n : Int)) = some (.ref a) ∧ ListAt H av a g.sents
  | _, _, .nil, e => by cases e
  | _, f :: fs, .cons (a := a) h t, e => by
    by_cases c : f.number = n
    · rw [List.find?_cons, beq_iff_eq.mpr c] at e
      cases e
      exact ⟨a, valV_pos (by rw [c]), h⟩
    · rw [List.find?_cons, beq_eq_false_iff_ne.mpr c] at e
      rw [valV_neg (key_ne c)]
      exact FilesAt.yes t e
theorem FilesAt.drop {av : Addr} {H : Hp} {n : Nat} : ∀ {kvs : List (Key × V)} {fs : List File}, FilesAt H av kvs fs → FilesAt H av (dropK kvs (Sum.inl (n : Int))) (fs.filter fun f => f.number != n)
  | _, _, .nil => .nil
  | _, f :: fs, .cons h t => by
    by_cases c : f.number = n
    · rw [dropK_pos (by rw [c]), List.filter_cons, if_neg (by simp [c])]
      exact FilesAt.drop t
    · rw [dropK_neg (key_ne c), List.filter_cons, if_pos (by simp [c])]
      exact .cons h (FilesAt.drop t)
theorem FilesAt.snoc {av a : Addr} {H : Hp} {f : File} (h : ListAt H av a f.sents) : ∀ {kvs : List (Key × V)} {fs : List File}, FilesAt H av kvs fs → FilesAt H av (kvs ++ [(Sum.inl (f.number : Int), .ref a)]) (fs ++ [f])
  | _, _, .nil => .cons h .nil
  | _, _, .cons g t => .cons g (FilesAt.snoc h t)
/-! ### the house as an object -/
def hF (d n m ag b : V) : List (Str × V) := [("files", d), ("next_number", n), ("memory", m), ("again", ag), ("bands", b)]
theorem lk0 {k : Str} {v : V} {r : List (Str × V)} : List.lookup k ((k, v) :: r) = some v := by
  simp only [List.lookup, beq_self_eq_true k]
theorem lk1 {k g : Str} {v : V} {r : List (Str × V)} {x : Option V} (h : (k == g) = false) (t : List.lookup k r = x) : List.lookup k ((g, v) :: r) = x := by
  rw [← t]
  simp only [List.lookup, h]
theorem pt0 {f : Str} {v x : V} {r : List (Str × V)} : putF f v ((f, x) :: r) = (f, v) :: r := if_pos rfl
theorem pt1 {f g : Str} {v x : V} {r r' : List (Str × V)} (h : ¬ g = f) (t : putF f v r = r') : putF f v ((g, x) :: r) = (g, x) :: r' := by
  rw [← t]
  exact if_neg h
section
variable {d n m ag b x : V}
theorem hF_files : (hF d n m ag b).lookup ("files" : Str) = some d := lk0
theorem hF_next : (hF d n m ag b).lookup ("next_number" : Str) = some n := lk1 (by decide +kernel) lk0
theorem hF_mem : (hF d n m ag b).lookup ("memory" : Str) = some m := lk1 (by decide +kernel) (lk1 (by decide +kernel) lk0)
theorem hF_again : (hF d n m ag b).lookup ("again" : Str) = some ag := lk1 (by decide +kernel) (lk1 (by decide +kernel) (lk1 (by decide +kernel) lk0))
theorem hF_bands : (hF d n m ag b).lookup ("bands" : Str) = some b := lk1 (by decide +kernel) (lk1 (by decide +kernel) (lk1 (by decide +kernel) (lk1 (by decide +kernel) lk0)))
theorem hF_no {k : Str} (h : (k == ("files" : Str)) = false ∧ (k == ("next_number" : Str)) = false ∧ (k == ("memory" : Str)) = false ∧ (k == ("again" : Str)) = false ∧ (k == ("bands" : Str)) = false) : (hF d n m ag b).lookup k = none :=
  lk1 h.1 (lk1 h.2.1 (lk1 h.2.2.1 (lk1 h.2.2.2.1 (lk1 h.2.2.2.2 rfl))))
theorem hF_pnext : putF "next_number" x (hF d n m ag b) = hF d x m ag b := pt1 (by decide +kernel) pt0
theorem hF_pmem : putF "memory" x (hF d n m ag b) = hF d n x ag b := pt1 (by decide +kernel) (pt1 (by decide +kernel) pt0)
theorem hF_pagain : putF "again" x (hF d n m ag b) = hF d n m x b := pt1 (by decide +kernel) (pt1 (by decide +kernel) (pt1 (by decide +kernel) pt0))
theorem hF_pbands : putF "bands" x (hF d n m ag b) = hF d n m ag x := pt1 (by decide +kernel) (pt1 (by decide +kernel) (pt1 (by decide +kernel) (pt1 (by decide +kernel) pt0)))
theorem hF_made : putF "bands" b (putF "again" ag (putF "memory" m (putF "next_number" n (putF "files" d [])))) = hF d n m ag b := by
  have e1 : putF "next_number" n (putF "files" d []) = [(("files" : Str), d), ("next_number", n)] := pt1 (by decide +kernel) rfl
  have e2 : putF "memory" m (putF "next_number" n (putF "files" d [])) = [(("files" : Str), d), ("next_number", n), ("memory", m)] := by rw [e1]; exact pt1 (by decide +kernel) (pt1 (by decide +kernel) rfl)
  have e3 : putF "again" ag (putF "memory" m (putF "next_number" n (putF "files" d []))) = [(("files" : Str), d), ("next_number", n), ("memory", m), ("again", ag)] := by rw [e2]; exact pt1 (by decide +kernel) (pt1 (by decide +kernel) (pt1 (by decide +kernel) rfl))
  rw [e3]
  exact pt1 (by decide +kernel) (pt1 (by decide +kernel) (pt1 (by decide +kernel) (pt1 (by decide +kernel) rfl)))
end
def hV (s : Ut10.St) (d m b : Addr) : List (Str × V) := hF (.ref d) (.int (s.given : Nat)) (.ref m) (.int (s.again : Nat)) (.ref b)
structure HouseAt (K : PySem.W.Frag) (C : Addr) (H : Hp) (h d : Addr) (s : Ut10.St) (av : Addr) : Prop where
  ob : ∃ dx m b, H h = some (.ins C dx (hV s d m b)) ∧ ListAt H av m s.memory ∧ BListAt K H av b s.bands
  dc : ∃ kvs, H d = some (.dK kvs) ∧ FilesAt H av kvs s.files
theorem HouseAt.low {K : PySem.W.Frag} {C h d av : Addr} {H H' : Hp} {s : Ut10.St} (x : HouseAt K C H h d s av) (e : Low av H H') (e1 : ∀ o, H h = some o → H' h = some o) (e2 : ∀ o, H d = some o → H' d = some o) : HouseAt K C H' h d s av := by
  obtain ⟨⟨dx, m, b, h1, h2, h3⟩, ⟨kvs, h4, h5⟩⟩ := x
  exact ⟨⟨dx, m, b, e1 _ h1, h2.low e, h3.low e⟩, ⟨kvs, e2 _ h4, h5.low e⟩⟩
theorem HouseAt.same {K : PySem.W.Frag} {C h d av : Addr} {H H' : Hp} {s : Ut10.St} (x : HouseAt K C H h d s av) (e : Same H H') : HouseAt K C H' h d s av := x.low (Low.of e) (fun o => e _ o) (fun o => e _ o)
/-- seen from a list that is not there yet -/
theorem ListAt.re {H : Hp} {av g a : Addr} {ss : List Sent} (h : ListAt H av a ss) (hg : H g = none) : ListAt H g a ss := by
  obtain ⟨_, xs, h1, h2⟩ := h
  exact ⟨ne_of_none h1 hg, xs, h1, h2⟩
theorem BListAt.re {K : PySem.W.Frag} {H : Hp} {av g a : Addr} {bs : List Band} (h : BListAt K H av a bs) (hg : H g = none) : BListAt K H g a bs := by
  obtain ⟨_, xs, h1, h2⟩ := h
  exact ⟨ne_of_none h1 hg, xs, h1, h2⟩
theorem FilesAt.re {H : Hp} {av g : Addr} (hg : H g = none) : ∀ {kvs : List (Key × V)} {fs : List File}, FilesAt H av kvs fs → FilesAt H g kvs fs
  | _, _, .nil => .nil
  | _, _, .cons h t => .cons (h.re hg) (FilesAt.re hg t)
theorem HouseAt.re {K : PySem.W.Frag} {C h d av g : Addr} {H : Hp} {s : Ut10.St} (x : HouseAt K C H h d s av) (hg : H g = none) : HouseAt K C H h d s g := by
  obtain ⟨⟨dx, m, b, h1, h2, h3⟩, ⟨kvs, h4, h5⟩⟩ := x
  exact ⟨⟨dx, m, b, h1, h2.re hg, h3.re hg⟩, ⟨kvs, h4, h5.re hg⟩⟩
/-- how a call on the house ends: the house behind the specification's step, its answer in a new list, all else as it was -/
def Done (K : PySem.W.Frag) (C : Addr) (H : Hp) (h d av : Addr) (r : Ut10.St × List Int) (Q : VK) : Prop :=
  ∀ (H' : Hp) (p : Addr), HouseAt K C H' h d r.1 av → (∀ b o, H b = some o → b ≠ h → b ≠ d → H' b = some o) → H p = none → H' p = some (.lst (r.2.map V.int)) → Q (.ref p) H'
structure HTxt (K : PySem.W.Frag) (mg : Str → Option Value) (C : Addr) : Prop where
  cl : Cls K C
  nF : NoAttr K C "files"
  nN : NoAttr K C "next_number"
  nM : NoAttr K C "memory"
  nA : NoAttr K C "again"
  nB : NoAttr K C "bands"
  gC : mg "House" = some (.ref C)
end Wc

namespace Wc
open PySem PySem.Spec PyProof.Rows L2
open Ut10 (Sent File Band)
section
variable {P : Program} {w : World} {K : PySem.W.Frag} {mg : Str → Option Value} {base : Heap} {C : Addr}
theorem one_line : (1 : Nat) ≤ sizeLine := by decide
theorem two_line : (2 : Nat) ≤ sizeLine := by decide
theorem upd_free {H : Hp} {a p : Addr} {o : HO} (h : upd H a o p = none) : H p = none := by
  by_cases c : p = a
  · subst c
    rw [upd_same] at h
    cases h
  · rw [upd_ne c] at h
    exact h
/-- a refusal: a new list of one number, nothing changed -/
theorem Done.refuse {H Hx : Hp} {h d av p : Addr} {s : Ut10.St} {z : Int} {Q : VK} (x : HouseAt K C H h d s av) (k : Done K C H h d av (s, [z]) Q) (e : Same H Hx) (np : Hx p = none) : Q (.ref p) (upd Hx p (.lst [.int z])) :=
  k _ p (x.same (e.trans (same_new np))) (fun b o q _ _ => (e.trans (same_new np)) b o q) (e.free np) upd_same
/-! ### House.add_file -/
abbrev sAdd : Stmt := inClass (top 39) 1
def spAdd (K : PySem.W.Frag) (C : Addr) : Sp := fun vs H Q _ => ∃ (h d av a : Addr) (s : Ut10.St) (ss : List Sent), vs = [.ref h, .ref a] ∧ HouseAt K C H h d s av ∧ Good s ∧ ListAt H av a ss ∧ ss.length ≤ 1000 ∧ Done K C H h d av (Ut10.step s (.file ss)) Q
theorem scAdd : FnScope ["self", "sentences", "number"] ["self", "sentences"] (defScope sAdd) := ⟨rfl, rfl, rfl, by decide +kernel, rfl, by decide +kernel, by decide +kernel⟩
theorem ok_add {f : Addr} {fd : FuncData} (F : Fun K "add_file" "House.add_file" sAdd f fd) (T : Txt mg) (X : HTxt K mg C) (D1 : Df P w K mg base "are_right_sentences" 3 ["sentences", "most"] spRightSs) (D2 : Df P w K mg base "count_words" 1 ["sentences"] spWords) :
    FnOk P w K mg base CX0 4 f fd ["self", "sentences"] (spAdd K C) := by
  refine F.ok scAdd (fun vs H Q E h => ?_) (fun cdv A outer s0 H vs Q E hr q => ?_)
  · obtain ⟨h, d, av, a, s, ss, rfl, _⟩ := h
    rfl
  · obtain ⟨h, d, av, a, s, ss, rfl, O, G, L, hlen, k⟩ := q
    have hu := hu_of hr
    refine ⟨_, pss_cons (ps_if (pt_not (pt_val (pe_df D1 hr (pa_cons (pv 1) (pa_cons (pe_cst T.cFileS) pa_nil))))) (pss_one (ps_ret (pe_lst (pa_cons (pe_cst T.cWrong) pa_nil)))) pss_nil)
      (pss_cons (ps_if (pt_cmpR op_ge (pe_callB call_lenD (by rfl) T.len PySem.boot_len (pa_cons (pe_fld (pv 0) rfl) pa_nil)) (pe_cst T.cFiles) (nomark _)) (pss_one (ps_ret (pe_lst (pa_cons (pe_cst T.cFull) pa_nil)))) pss_nil)
      (pss_cons (ps_set (i := 2) scAdd.nd rfl (Or.inl rfl) (pe_fld (pv 0) rfl))
      (pss_cons (ps_dput hu (pe_fld (pv 0) rfl) (pv 2) (pv 1) rfl)
      (pss_cons (ps_fld (pv 0) (pe_op op_add (pv 2) pe_int) rfl)
      (pss_one (ps_ret (pe_lst (pa_cons (pv 2) (pa_cons (pe_df D2 (hr.mono (by decide)) (pa_cons (pv 1) pa_nil)) pa_nil))))))))), ?_⟩
    obtain ⟨hne, xs, ha, hs⟩ := id L
    refine ⟨_, rfl, a, xs, ss, 8, rfl, ha, hs, hlen, fun H1 e1 => ⟨_, rfl, ?_⟩⟩
    by_cases c : 8 < ss.length ∨ ss.all Ut10.sentOk = false
    · rw [file_bad c] at k
      have e : (decide (ss.length ≤ 8) && ss.all Ut10.sentOk) = false := by
        rcases c with c | c
        · rw [decide_eq_false (by omega), Bool.false_and]
        · rw [c, Bool.and_false]
      rw [e]
      exact iteT ⟨one_line, fun p np => k.refuse O e1 np⟩
    · have e : (decide (ss.length ≤ 8) && ss.all Ut10.sentOk) = true := by
        rw [decide_eq_true (Nat.le_of_not_lt fun z => c (.inl z)), Bool.true_and, ← Bool.not_eq_false]
        exact fun z => c (.inr z)
      rw [e]
      refine iteF ?_
      have O1 := O.same e1
      obtain ⟨⟨dx, m, b, h1, h2, h3⟩, ⟨kvs, h4, h5⟩⟩ := id O1
      refine ⟨_, rfl, h, C, dx, _, _, rfl, h1, X.cl, X.nF, hF_files, d, kvs, rfl, h4, _, _, rfl, rfl, _, rfl, ?_⟩
      rw [h5.len]
      by_cases c2 : 6 ≤ s.files.length
      · rw [decide_eq_true (by omega : (6 : Int) ≤ s.files.length)]
        rw [file_full c c2] at k
        exact iteT ⟨one_line, fun p np => k.refuse O e1 np⟩
      · rw [decide_eq_false (by omega : ¬ (6 : Int) ≤ s.files.length)]
        rw [file_ok c c2] at k
        refine iteF ?_
        have hd : h ≠ d := ne_of h1 h4 (by intro z; cases z)
        have hnew : valV kvs (Sum.inl (s.given : Int)) = none := h5.no (by
          rw [List.find?_eq_none]
          intro f hf
          have := G.low f hf
          simp
          omega)
        refine ⟨_, rfl, h, C, dx, _, _, rfl, h1, X.cl, X.nN, hF_next, ?_⟩
        refine ⟨_, rfl, _, rfl, h, C, dx, _, _, rfl, h1, X.cl, X.nF, hF_files, _, rfl, d, _, rfl, DPut.k (k := Sum.inl (s.given : Int)) h4 (small1000 (by rw [h5.len]; omega)), ?_⟩
        have h1' : upd H1 d (.dK (putK kvs (Sum.inl (s.given : Int)) (.ref a))) h = some (.ins C dx (hV s d m b)) := by rw [upd_ne hd]; exact h1
        refine ⟨_, rfl, _, _, rfl, rfl, _, rfl, h, C, dx, _, rfl, h1', X.cl, X.nN, (by show 5 < 1000; decide), ?_⟩
        have ef : putF "next_number" (V.int ((s.given : Int) + 1)) (hV s d m b) = hV { s with files := s.files ++ [⟨s.given, ss⟩], given := s.given + 1 } d m b := hF_pnext
        rw [ef, putK_new _ hnew]
        -- the heap behind the two stores
        let H2 := upd (upd H1 d (.dK (kvs ++ [(Sum.inl (s.given : Int), .ref a)]))) h (.ins C dx (hV { s with files := s.files ++ [⟨s.given, ss⟩], given := s.given + 1 } d m b))
        have low2 : Low av H1 H2 := ((Low.refl H1).upd_dk h4).upd_ins h1
        have L2' : ListAt H2 av a ss := (L.low (Low.of e1)).low low2
        have O2 : HouseAt K C H2 h d { s with files := s.files ++ [⟨s.given, ss⟩], given := s.given + 1 } av :=
          ⟨⟨dx, m, b, upd_same, h2.low low2, h3.low low2⟩, ⟨_, by show upd _ h _ d = _; rw [upd_ne hd.symm]; exact upd_same, FilesAt.snoc (f := ⟨s.given, ss⟩) L2' (h5.low low2)⟩⟩
        obtain ⟨_, xs2, ha2, hs2⟩ := L2'
        refine ⟨_, rfl, _, rfl, a, xs2, ss, rfl, ha2, hs2, hlen, fun H3 e3 => ⟨two_line, fun p np => ?_⟩⟩
        refine k _ p (O2.same (e3.trans (same_new np))) (fun b' o q1 q2 q3 => ?_) ?_ upd_same
        · have z1 : H2 b' = some o := by show upd _ h _ b' = _; rw [upd_ne q2, upd_ne q3]; exact e1 _ _ q1
          exact (e3.trans (same_new np)) _ _ z1
        · exact e1.free (upd_free (upd_free (e3.free np)))
end
end Wc

namespace Wc
open PySem PySem.Spec PyProof.Rows L2
open Ut10 (Sent File Band)
section
variable {P : Program} {w : World} {K : PySem.W.Frag} {mg : Str → Option Value} {base : Heap} {C : Addr}
/-- the house behind a file's going -/
theorem HouseAt.dropped {H : Hp} {h d av dx m b : Addr} {s : Ut10.St} {kvs : List (Key × V)} (n : Nat) (h1 : H h = some (.ins C dx (hV s d m b))) (h2 : ListAt H av m s.memory) (h3 : BListAt K H av b s.bands) (h4 : H d = some (.dK kvs)) (h5 : FilesAt H av kvs s.files) :
    HouseAt K C (upd H d (.dK (dropK kvs (Sum.inl (n : Int))))) h d (dropped s n) av := by
  have hd : h ≠ d := ne_of h1 h4 (by intro z; cases z)
  have low : Low av H (upd H d (.dK (dropK kvs (Sum.inl (n : Int))))) := (Low.refl H).upd_dk h4
  exact ⟨⟨dx, m, b, by rw [upd_ne hd]; exact h1, h2.low low, h3.low low⟩, ⟨_, upd_same, h5.drop.low low⟩⟩
/-! ### House.drop_file -/
abbrev sDrop : Stmt := inClass (top 39) 2
def spDrop (K : PySem.W.Frag) (C : Addr) : Sp := fun vs H Q _ => ∃ (h d av : Addr) (n : Nat) (s : Ut10.St), vs = [.ref h, .int n] ∧ HouseAt K C H h d s av ∧ Done K C H h d av (Ut10.step s (.gone n)) Q
theorem scDrop : FnScope ["self", "number"] ["self", "number"] (defScope sDrop) := ⟨rfl, rfl, rfl, by decide +kernel, rfl, by decide +kernel, by decide +kernel⟩
theorem ok_drop {f : Addr} {fd : FuncData} (F : Fun K "drop_file" "House.drop_file" sDrop f fd) (T : Txt mg) (X : HTxt K mg C) : FnOk P w K mg base CX0 1 f fd ["self", "number"] (spDrop K C) := by
  refine F.ok scDrop (fun vs H Q E h => ?_) (fun cdv A outer s0 H vs Q E hr q => ?_)
  · obtain ⟨h, d, av, a, s, rfl, _⟩ := h
    rfl
  · obtain ⟨h, d, av, n, s, rfl, O, k⟩ := q
    have hu := hu_of hr
    refine ⟨_, pss_cons (ps_if (pt_cmp (pc_dnotin hu (pv 1) (pe_fld (pv 0) rfl))) (pss_one (ps_ret (pe_lst (pa_cons (pe_cst T.cNo) pa_nil)))) pss_nil)
      (pss_cons (ps_expr (pe_dpop1 (pe_fld (pv 0) rfl) (pv 1) ⟨rfl, rfl, rfl, rfl⟩))
      (pss_one (ps_ret (pe_lst (pa_cons (pe_callB call_lenD (by rfl) T.len PySem.boot_len (pa_cons (pe_fld (pv 0) rfl) pa_nil)) pa_nil))))), ?_⟩
    obtain ⟨⟨dx, m, b, h1, h2, h3⟩, ⟨kvs, h4, h5⟩⟩ := id O
    refine ⟨_, rfl, _, rfl, h, C, dx, _, _, rfl, h1, X.cl, X.nF, hF_files, d, _, rfl, DGet.k (k := Sum.inl (n : Int)) h4, _, rfl, ?_⟩
    cases e : Ut10.fileOf s n with
    | none =>
      rw [gone_no e] at k
      rw [h5.no e]
      exact iteT ⟨one_line, fun p np => k.refuse O (Same.refl H) np⟩
    | some f0 =>
      rw [gone_ok e] at k
      obtain ⟨a, ea, _⟩ := h5.yes e
      rw [ea]
      refine iteF ?_
      have hd : h ≠ d := ne_of h1 h4 (by intro z; cases z)
      have O2 := HouseAt.dropped n h1 h2 h3 h4 h5
      refine ⟨_, rfl, h, C, dx, _, _, rfl, h1, X.cl, X.nF, hF_files, d, rfl, .inl ⟨_, .inl h4⟩, _, rfl, kvs, Sum.inl (n : Int), _, h4, rfl, ea, ?_⟩
      refine ⟨_, rfl, h, C, dx, _, _, rfl, (by rw [upd_ne hd]; exact h1), X.cl, X.nF, hF_files, d, _, rfl, upd_same, one_line, fun p np => ?_⟩
      have el : (dropK kvs (Sum.inl (n : Int))).length = (dropped s n).files.length := (h5.drop (n := n)).len
      rw [el]
      refine k _ p (O2.same (same_new np)) (fun b' o q1 q2 q3 => ?_) (upd_free np) upd_same
      exact same_new np _ _ (by rw [upd_ne q3]; exact q1)
/-! ### House.replace_memory -/
abbrev sMem : Stmt := inClass (top 39) 3
def spMem (K : PySem.W.Frag) (C : Addr) : Sp := fun vs H Q _ => ∃ (h d av a : Addr) (s : Ut10.St) (ss : List Sent), vs = [.ref h, .ref a] ∧ HouseAt K C H h d s av ∧ ListAt H av a ss ∧ ss.length ≤ 1000 ∧ Done K C H h d av (Ut10.step s (.memory ss)) Q
theorem scMem : FnScope ["self", "sentences"] ["self", "sentences"] (defScope sMem) := ⟨rfl, rfl, rfl, by decide +kernel, rfl, by decide +kernel, by decide +kernel⟩
theorem ok_mem {f : Addr} {fd : FuncData} (F : Fun K "replace_memory" "House.replace_memory" sMem f fd) (T : Txt mg) (X : HTxt K mg C) (D1 : Df P w K mg base "are_right_sentences" 3 ["sentences", "most"] spRightSs) :
    FnOk P w K mg base CX0 4 f fd ["self", "sentences"] (spMem K C) := by
  refine F.ok scMem (fun vs H Q E h => ?_) (fun cdv A outer s0 H vs Q E hr q => ?_)
  · obtain ⟨h, d, av, a, s, ss, rfl, _⟩ := h
    rfl
  · obtain ⟨h, d, av, a, s, ss, rfl, O, L, hlen, k⟩ := q
    refine ⟨_, pss_cons (ps_if (pt_not (pt_val (pe_df D1 hr (pa_cons (pv 1) (pa_cons (pe_cst T.cMemS) pa_nil))))) (pss_one (ps_ret (pe_lst (pa_cons (pe_cst T.cWrong) pa_nil)))) pss_nil)
      (pss_cons (ps_fld (pv 0) (pv 1) rfl)
      (pss_one (ps_ret (pe_lst (pa_cons (pe_callB call_len_seq (by rfl) T.len PySem.boot_len (pa_cons (pv 1) pa_nil)) pa_nil))))), ?_⟩
    obtain ⟨hne, xs, ha, hs⟩ := id L
    refine ⟨_, rfl, a, xs, ss, 20, rfl, ha, hs, hlen, fun H1 e1 => ⟨_, rfl, ?_⟩⟩
    by_cases c : 20 < ss.length ∨ ss.all Ut10.sentOk = false
    · rw [memory_bad c] at k
      have e : (decide (ss.length ≤ 20) && ss.all Ut10.sentOk) = false := by
        rcases c with c | c
        · rw [decide_eq_false (by omega), Bool.false_and]
        · rw [c, Bool.and_false]
      rw [e]
      exact iteT ⟨one_line, fun p np => k.refuse O e1 np⟩
    · have e : (decide (ss.length ≤ 20) && ss.all Ut10.sentOk) = true := by
        rw [decide_eq_true (Nat.le_of_not_lt fun z => c (.inl z)), Bool.true_and, ← Bool.not_eq_false]
        exact fun z => c (.inr z)
      rw [memory_ok c] at k
      rw [e]
      refine iteF ?_
      obtain ⟨⟨dx, m, b, h1, h2, h3⟩, ⟨kvs, h4, h5⟩⟩ := id (O.same e1)
      have hd : h ≠ d := ne_of h1 h4 (by intro z; cases z)
      refine ⟨_, rfl, _, rfl, h, C, dx, _, rfl, h1, X.cl, X.nM, (by show 5 < 1000; decide), ?_⟩
      have ef : putF "memory" (V.ref a) (hV s d m b) = hV { s with memory := ss } d a b := hF_pmem
      rw [ef]
      have low : Low av H1 (upd H1 h (.ins C dx (hV { s with memory := ss } d a b))) := (Low.refl H1).upd_ins h1
      have LL : ListAt (upd H1 h (.ins C dx (hV { s with memory := ss } d a b))) av a ss := (L.low (Low.of e1)).low low
      have O2 : HouseAt K C (upd H1 h (.ins C dx (hV { s with memory := ss } d a b))) h d { s with memory := ss } av :=
        ⟨⟨dx, a, b, upd_same, LL, h3.low low⟩, ⟨kvs, by rw [upd_ne hd.symm]; exact h4, h5.low low⟩⟩
      obtain ⟨_, xs2, ha2, hs2⟩ := id LL
      refine ⟨_, rfl, a, _, rfl, .inl (SqL.of ha2), one_line, fun p np => ?_⟩
      rw [hs2.len]
      refine k _ p (O2.same (same_new np)) (fun b' o q1 q2 q3 => ?_) (e1.free (upd_free np)) upd_same
      exact same_new np _ _ (by rw [upd_ne q2]; exact e1 _ _ q1)
/-! ### House.finish_file -/
abbrev sFin : Stmt := inClass (top 39) 4
def spFin (K : PySem.W.Frag) (C : Addr) : Sp := fun vs H Q _ => ∃ (h d av : Addr) (n : Nat) (s : Ut10.St), vs = [.ref h, .int n] ∧ HouseAt K C H h d s av ∧ Good s ∧ (∃ o, H av = some o) ∧ Done K C H h d av (Ut10.step s (.done n)) Q
theorem scFin : FnScope ["self", "number", "grown"] ["self", "number"] (defScope sFin) := ⟨rfl, rfl, rfl, by decide +kernel, rfl, by decide +kernel, by decide +kernel⟩
theorem ok_fin {f : Addr} {fd : FuncData} (F : Fun K "finish_file" "House.finish_file" sFin f fd) (T : Txt mg) (X : HTxt K mg C) (D1 : Df P w K mg base "with_unknown" 1 ["memory", "sentences"] spGrow) :
    FnOk P w K mg base CX0 2 f fd ["self", "number"] (spFin K C) := by
  refine F.ok scFin (fun vs H Q E h => ?_) (fun cdv A outer s0 H vs Q E hr q => ?_)
  · obtain ⟨h, d, av, a, s, rfl, _⟩ := h
    rfl
  · obtain ⟨h, d, av, n, s, rfl, O, G, ⟨ov, hav⟩, k⟩ := q
    have hu := hu_of hr
    refine ⟨_, pss_cons (ps_if (pt_cmp (pc_dnotin hu (pv 1) (pe_fld (pv 0) rfl))) (pss_one (ps_ret (pe_lst (pa_cons (pe_cst T.cNo) pa_nil)))) pss_nil)
      (pss_cons (ps_set (i := 2) scFin.nd rfl (Or.inl rfl) (pe_df D1 hr (pa_cons (pe_fld (pv 0) rfl) (pa_cons (pe_dget hu (pe_fld (pv 0) rfl) (pv 1) (fun _ _ => rfl)) pa_nil))))
      (pss_cons (ps_if (pt_cmpR op_gt (pe_callB call_len_seq (by rfl) T.len PySem.boot_len (pa_cons (pv 2) pa_nil)) (pe_cst T.cMemS) (nomark _)) (pss_one (ps_ret (pe_lst (pa_cons (pe_cst T.cFull) pa_nil)))) pss_nil)
      (pss_cons (ps_fld (pv 0) (pv 2) rfl)
      (pss_cons (ps_expr (pe_dpop1 (pe_fld (pv 0) rfl) (pv 1) ⟨rfl, rfl, rfl, rfl⟩))
      (pss_one (ps_ret (pe_lst (pa_cons (pe_callB call_lenD (by rfl) T.len PySem.boot_len (pa_cons (pe_fld (pv 0) rfl) pa_nil)) (pa_cons (pe_callB call_len_seq (by rfl) T.len PySem.boot_len (pa_cons (pv 2) pa_nil)) pa_nil))))))))), ?_⟩
    obtain ⟨⟨dx, m, b, h1, h2, h3⟩, ⟨kvs, h4, h5⟩⟩ := id O
    refine ⟨_, rfl, _, rfl, h, C, dx, _, _, rfl, h1, X.cl, X.nF, hF_files, d, _, rfl, DGet.k (k := Sum.inl (n : Int)) h4, _, rfl, ?_⟩
    cases e : Ut10.fileOf s n with
    | none =>
      rw [done_no e] at k
      rw [h5.no e]
      exact iteT ⟨one_line, fun p np => k.refuse O (Same.refl H) np⟩
    | some f0 =>
      obtain ⟨a, ea, La⟩ := h5.yes e
      rw [ea]
      refine iteF ?_
      obtain ⟨_, xa, ha, hsa⟩ := id La
      obtain ⟨_, xm, hm, hsm⟩ := id h2
      have f0ok := G.sents f0 (mem_of_find e).1
      refine ⟨_, rfl, h, C, dx, _, _, rfl, h1, X.cl, X.nM, hF_mem, _, rfl, h, C, dx, _, _, rfl, h1, X.cl, X.nF, hF_files, _, rfl, d, .ref a, rfl, ?_, ?_⟩
      · have := DGet.k (k := Sum.inl (n : Int)) h4
        rw [ea] at this
        exact this
      refine ⟨m, a, xm, xa, s.memory, f0.sents, rfl, hm, hsm, ha, hsa, (by have := G.mem.1; omega), (by omega), fun H1 g zs e1 ng hg hgs => ?_⟩
      refine ⟨_, rfl, g, _, rfl, .inl (SqL.of hg), _, _, rfl, rfl, _, rfl, ?_⟩
      rw [hgs.len]
      by_cases c : 20 < (grown s.memory f0.sents).length
      · rw [decide_eq_true (by omega : (20 : Int) < (grown s.memory f0.sents).length)]
        rw [done_full e c] at k
        exact iteT ⟨one_line, fun p np => k.refuse O e1 np⟩
      · rw [decide_eq_false (by omega : ¬ (20 : Int) < (grown s.memory f0.sents).length)]
        rw [done_ok e c] at k
        refine iteF ?_
        have hd : h ≠ d := ne_of h1 h4 (by intro z; cases z)
        refine ⟨_, rfl, _, rfl, h, C, dx, _, rfl, e1 _ _ h1, X.cl, X.nM, (by show 5 < 1000; decide), ?_⟩
        have ef : putF "memory" (V.ref g) (hV s d m b) = hV { s with memory := grown s.memory f0.sents } d g b := hF_pmem
        rw [ef]
        have low : Low av H1 (upd H1 h (.ins C dx (hV { s with memory := grown s.memory f0.sents } d g b))) := (Low.refl H1).upd_ins (e1 _ _ h1)
        have LL : ListAt (upd H1 h (.ins C dx (hV { s with memory := grown s.memory f0.sents } d g b))) av g (grown s.memory f0.sents) := ListAt.low low ⟨(ne_of_none hav ng).symm, zs, hg, hgs⟩
        have h4' : upd H1 h (.ins C dx (hV { s with memory := grown s.memory f0.sents } d g b)) d = some (.dK kvs) := by rw [upd_ne hd.symm]; exact e1 _ _ h4
        have O2 := HouseAt.dropped (K := K) (C := C) (s := { s with memory := grown s.memory f0.sents }) n upd_same LL (BListAt.low ((Low.of e1).trans low) h3) h4' (h5.low ((Low.of e1).trans low))
        have gh : g ≠ h := ne_of hg (e1 _ _ h1) (by intro z; cases z)
        have gd : g ≠ d := ne_of hg (e1 _ _ h4) (by intro z; cases z)
        refine ⟨_, rfl, h, C, dx, _, _, rfl, upd_same, X.cl, X.nF, hF_files, d, rfl, .inl ⟨_, .inl h4'⟩, _, rfl, kvs, Sum.inl (n : Int), _, h4', rfl, ea, ?_⟩
        refine ⟨_, rfl, h, C, dx, _, _, rfl, (by rw [upd_ne hd]; exact upd_same), X.cl, X.nF, hF_files, d, _, rfl, upd_same, _, rfl, g, _, rfl, .inl (SqL.of (by rw [upd_ne gd, upd_ne gh]; exact hg)), two_line, fun p np => ?_⟩
        have el : (dropK kvs (Sum.inl (n : Int))).length = (dropped s n).files.length := (h5.drop (n := n)).len
        rw [el, hgs.len]
        refine k _ p (O2.same (same_new np)) (fun b' o q1 q2 q3 => ?_) (e1.free (upd_free (upd_free np))) upd_same
        exact same_new np _ _ (by rw [upd_ne q3, upd_ne q2]; exact e1 _ _ q1)
/-! ### House.replace_rates -/
abbrev sRates : Stmt := inClass (top 39) 5
def spRates (K : PySem.W.Frag) (C : Addr) : Sp := fun vs H Q _ => ∃ (h d av a : Addr) (g : Nat) (s : Ut10.St) (bs : List Band), vs = [.ref h, .int g, .ref a] ∧ HouseAt K C H h d s av ∧ BListAt K H av a bs ∧ bs.length ≤ 1000 ∧ Done K C H h d av (Ut10.step s (.rates g bs)) Q
theorem scRates : FnScope ["self", "again", "bands"] ["self", "again", "bands"] (defScope sRates) := ⟨rfl, rfl, rfl, by decide +kernel, rfl, by decide +kernel, by decide +kernel⟩
theorem bandsOk_iff (bs : List Band) : bandsOk bs = false ↔ 4 < bs.length ∨ (bs.all fun b => decide (b.1 ≤ 100) && decide (b.2 ≤ 100)) = false ∨ Ut10.falling bs = false := by
  have e : bs.all bandOk = bs.all fun b => decide (b.1 ≤ 100) && decide (b.2 ≤ 100) := rfl
  unfold bandsOk
  rw [e, Bool.and_eq_false_iff, Bool.and_eq_false_iff, decide_eq_false_iff_not]
  constructor
  · rintro (h | h | h)
    · exact .inl (by omega)
    · exact .inr (.inl h)
    · exact .inr (.inr h)
  · rintro (h | h | h)
    · exact .inl (by omega)
    · exact .inr (.inl h)
    · exact .inr (.inr h)
theorem ok_rates {f : Addr} {fd : FuncData} (F : Fun K "replace_rates" "House.replace_rates" sRates f fd) (T : Txt mg) (X : HTxt K mg C) (D1 : Df P w K mg base "are_right_bands" 3 ["bands"] (spRightBs K)) :
    FnOk P w K mg base CX0 4 f fd ["self", "again", "bands"] (spRates K C) := by
  refine F.ok scRates (fun vs H Q E h => ?_) (fun cdv A outer s0 H vs Q E hr q => ?_)
  · obtain ⟨h, d, av, a, g, s, bs, rfl, _⟩ := h
    rfl
  · obtain ⟨h, d, av, a, g, s, bs, rfl, O, L, hlen, k⟩ := q
    refine ⟨_, pss_cons (ps_if (PW.pt (pw_or (pt_cmpR op_gt (pv 1) (pe_cst T.cRate) (nomark _)) (pw_or1 (pt_not (pt_val (pe_df D1 hr (pa_cons (pv 2) pa_nil))))))) (pss_one (ps_ret (pe_lst (pa_cons (pe_cst T.cWrong) pa_nil)))) pss_nil)
      (pss_cons (ps_fld (pv 0) (pv 1) rfl)
      (pss_cons (ps_fld (pv 0) (pv 2) rfl)
      (pss_one (ps_ret (pe_lst (pa_cons pe_int pa_nil)))))), ?_⟩
    obtain ⟨hne, xs, ha, hs⟩ := id L
    refine ⟨_, rfl, _, _, rfl, rfl, _, rfl, ?_⟩
    by_cases c1 : 100 < g
    · rw [decide_eq_true (by omega : (100 : Int) < g)]
      rw [rates_bad (.inl c1)] at k
      exact iteT (iteT ⟨one_line, fun p np => k.refuse O (Same.refl H) np⟩)
    · rw [decide_eq_false (by omega : ¬ (100 : Int) < g)]
      refine iteF ⟨_, rfl, a, xs, bs, rfl, SqL.of ha, hs, hlen, fun H1 e1 => ⟨_, rfl, ?_⟩⟩
      cases c2 : bandsOk bs with
      | false =>
        rw [rates_bad (.inr ((bandsOk_iff bs).mp c2))] at k
        exact iteT ⟨one_line, fun p np => k.refuse O e1 np⟩
      | true =>
        have nb : ¬ (100 < g ∨ 4 < bs.length ∨ (bs.all fun b => decide (b.1 ≤ 100) && decide (b.2 ≤ 100)) = false ∨ Ut10.falling bs = false) := by
          rintro (z | z)
          · exact c1 z
          · rw [(bandsOk_iff bs).mpr z] at c2; cases c2
        rw [rates_ok nb] at k
        refine iteF ?_
        obtain ⟨⟨dx, m, b, h1, h2, h3⟩, ⟨kvs, h4, h5⟩⟩ := id (O.same e1)
        have hd : h ≠ d := ne_of h1 h4 (by intro z; cases z)
        refine ⟨_, rfl, _, rfl, h, C, dx, _, rfl, h1, X.cl, X.nA, (by show 5 < 1000; decide), ?_⟩
        have ef : putF "again" (V.int (g : Nat)) (hV s d m b) = hF (.ref d) (.int (s.given : Nat)) (.ref m) (.int (g : Nat)) (.ref b) := hF_pagain
        rw [ef]
        refine ⟨_, rfl, _, rfl, h, C, dx, _, rfl, upd_same, X.cl, X.nB, (by show 5 < 1000; decide), ?_⟩
        have ef2 : putF "bands" (V.ref a) (hF (.ref d) (.int (s.given : Nat)) (.ref m) (.int (g : Nat)) (.ref b)) = hV { s with again := g, bands := bs } d m a := hF_pbands
        rw [ef2, upd_upd]
        have low : Low av H1 (upd H1 h (.ins C dx (hV { s with again := g, bands := bs } d m a))) := (Low.refl H1).upd_ins h1
        have O2 : HouseAt K C (upd H1 h (.ins C dx (hV { s with again := g, bands := bs } d m a))) h d { s with again := g, bands := bs } av :=
          ⟨⟨dx, m, a, upd_same, h2.low low, (L.low (Low.of e1)).low low⟩, ⟨kvs, by rw [upd_ne hd.symm]; exact h4, h5.low low⟩⟩
        refine ⟨one_line, fun p np => ?_⟩
        refine k _ p (O2.same (same_new np)) (fun b' o q1 q2 q3 => ?_) (e1.free (upd_free np)) upd_same
        exact same_new np _ _ (by rw [upd_ne q2]; exact e1 _ _ q1)
end
end Wc

namespace Wc
open PySem PySem.Spec PyProof.Rows L2
open Ut10 (Sent File Band)
theorem cut_nat (xs : List V) (i j : Nat) (hij : i ≤ j) (hj : j ≤ xs.length) : cutV xs (some (i : Int)) (some (j : Int)) = (xs.drop i).take (j - i) := by
  unfold cutV
  rw [HT.sIx_nat, HT.sIx_nat, Nat.min_eq_left hj, Nat.min_eq_left (Nat.le_trans hij hj)]
section
variable {P : Program} {w : World} {K : PySem.W.Frag} {mg : Str → Option Value} {base : Heap} {C : Addr}
/-! ### sentences_of -/
abbrev sSents : Stmt := top 53
def spSents (K : PySem.W.Frag) : Sp := fun vs H Q _ => ∃ (a : Addr) (ss : List Sent), vs = [.ref a] ∧ SqL K H a (wv (flat ss)) ∧ (flat ss).length ≤ 1000 ∧
  ∀ (H' : Hp) (p : Addr) (xs : List V), Same H H' → H p = none → H' p = some (.lst xs) → SentsAt H' xs ss → Q (.ref p) H'
theorem scSents : FnScope ["row", "sentences", "place", "behind"] ["row"] (defScope sSents) := ⟨rfl, rfl, rfl, by decide +kernel, rfl, by decide +kernel, by decide +kernel⟩
theorem wv_append (a b : List Nat) : wv (a ++ b) = wv a ++ wv b := List.map_append ..
theorem ok_sents {f : Addr} {fd : FuncData} (F : Fun K "sentences_of" "sentences_of" sSents f fd) (T : Txt mg) : FnOk P w K mg base CX0 1 f fd ["row"] (spSents K) := by
  refine F.ok scSents (fun vs H Q E h => ?_) (fun cdv A outer s0 H vs Q E hr q => ?_)
  · obtain ⟨a, ss, rfl, _⟩ := h
    rfl
  · obtain ⟨a, ss, rfl, ha, hlen, k⟩ := q
    refine ⟨_, pss_cons (ps_set (i := 1) scSents.nd rfl (Or.inl rfl) (pe_lst pa_nil))
      (pss_cons (ps_set (i := 2) scSents.nd rfl (Or.inl rfl) pe_int)
      (pss_cons (ps_while PassesOwn.never (pt_cmpR op_lt (pv 2) (pe_callB call_len_seq (by rfl) T.len PySem.boot_len (pa_cons (pv 0) pa_nil)) (nomark _))
        (pss_cons (ps_set (i := 3) scSents.nd rfl (Or.inl rfl) (pe_op op_add (pe_op op_add (pv 2) pe_int) (pe_ix ix_list (pv 0) (pv 2) (fun _ _ => rfl))))
        (pss_cons (ps_expr (pe_bm PySem.F.plainAttrs_list PySem.F.slot_list_append PySem.F.type_list_append mt_append (pv 1) (pa_cons (pe_callTy call_tuple_of (by rfl) T.tuple (by decide +kernel) (pa_cons (pe_slice sl_list (pv 0) (po_some (pe_op op_add (pv 2) pe_int)) (po_some (pv 3))) pa_nil)) pa_nil)))
        (pss_one (ps_set (i := 2) scSents.nd rfl (Or.inl rfl) (pv 3))))))
      (pss_one (ps_ret (pv 1))))), ?_⟩
    refine ⟨Nat.zero_le _, fun p np => ?_⟩
    refine ⟨fun n σ H' => ∃ (i : Nat) (v : Option V) (xs : List V), n = ss.length - i ∧ i ≤ ss.length ∧ σ = [some (.ref a), some (.ref p), some (.int ((flat (ss.take i)).length : Nat)), v] ∧ Same H H' ∧ H' p = some (.lst xs) ∧ SentsAt H' xs (ss.take i), ⟨ss.length, 0, none, [], rfl, Nat.zero_le _, rfl, same_new np, upd_same, SentsAt.nil⟩, ?_⟩
    rintro n σ H' ⟨i, v, xs, rfl, hi, rfl, e0, hp, hs⟩
    have ha' : SqL K H' a (wv (flat ss)) := e0.seq ha
    refine ⟨_, rfl, _, rfl, a, _, rfl, .inl ha', _, _, rfl, rfl, _, rfl, ?_⟩
    rw [wv_len]
    by_cases c : i < ss.length
    · have hlt := flat_len_lt c
      rw [decide_eq_true (by omega : ((flat (ss.take i)).length : Int) < (flat ss).length)]
      refine iteT ?_
      obtain ⟨u, hu⟩ : ∃ u, ss[i]? = some u := ⟨ss[i], List.getElem?_eq_getElem c⟩
      have ef := flat_at hu
      have ep := flat_place hu
      have e1 : (wv (flat ss))[(flat (ss.take i)).length]? = some (.int (u.length : Nat)) := by
        unfold wv
        rw [List.getElem?_map, ef, List.getElem?_append_right (Nat.le_refl _), Nat.sub_self]
        rfl
      have el : (flat ss).length = (flat (ss.take i)).length + 1 + u.length + (flat (ss.drop (i + 1))).length := by
        rw [ef]; simp; omega
      refine ⟨fun σ' H'' => ∃ (v : Option V) (xs : List V), σ' = [some (.ref a), some (.ref p), some (.int ((flat (ss.take (i + 1))).length : Nat)), v] ∧ Same H H'' ∧ H'' p = some (.lst xs) ∧ SentsAt H'' xs (ss.take (i + 1)),
        fun σ' H'' ⟨v, xs, z1, z2, z3, z4⟩ => ⟨ss.length - (i + 1), by omega, i + 1, v, xs, rfl, c, z1, z2, z3, z4⟩, ?_⟩
      refine ⟨_, rfl, _, _, rfl, rfl, _, rfl, _, rfl, a, _, _, _, rfl, rfl, ha', atI_nat e1, _, _, rfl, rfl, ?_⟩
      have ecut : cutV (wv (flat ss)) (some (((flat (ss.take i)).length : Int) + 1)) (some (((flat (ss.take i)).length : Int) + 1 + (u.length : Nat))) = wv u := by
        have q := cut_nat (wv (flat ss)) ((flat (ss.take i)).length + 1) ((flat (ss.take i)).length + 1 + u.length) (by omega) (by rw [wv_len]; omega)
        refine Eq.trans q ?_
        rw [ef, wv_append, List.drop_append, wv_len, List.drop_of_length_le (by rw [wv_len]; omega), List.nil_append]
        rw [show (flat (ss.take i)).length + 1 - (flat (ss.take i)).length = 1 by omega, show (flat (ss.take i)).length + 1 + u.length - ((flat (ss.take i)).length + 1) = u.length by omega]
        show (wv (u ++ flat (ss.drop (i + 1)))).take u.length = wv u
        rw [wv_append, List.take_append, wv_len, Nat.sub_self, List.take_zero, List.append_nil, List.take_of_length_le (by rw [wv_len]; exact Nat.le_refl _)]
      refine ⟨_, rfl, .inl ⟨rfl, _, SqL.of hp⟩, _, rfl, ⟨_, rfl, _, _, rfl, rfl, _, rfl, _, rfl, _, rfl, a, _, rfl, ha', fun l nl => ?_⟩⟩
      refine ⟨l, _, rfl, .inl ⟨SqL.of upd_same, fun t nt => ?_⟩⟩
      have s1 : Same H' (upd H' l (.lst (wv u))) := same_new nl
      have nt' : upd H' l (.lst (wv u)) t = none := by
        rw [← ecut]
        exact nt
      have s2 : Same H' (upd (upd H' l (.lst (wv u))) t (.tup (wv u))) := s1.trans (same_new nt')
      have hx : upd (upd H' l (.lst (cutV (wv (flat ss)) (some (((flat (ss.take i)).length : Int) + 1)) (some (((flat (ss.take i)).length : Int) + 1 + (u.length : Nat)))))) t (.tup (cutV (wv (flat ss)) (some (((flat (ss.take i)).length : Int) + 1)) (some (((flat (ss.take i)).length : Int) + 1 + (u.length : Nat))))) = upd (upd H' l (.lst (wv u))) t (.tup (wv u)) := by rw [ecut]
      refine ⟨p, xs, _, rfl, rfl, (congrFun hx p).trans (s2 _ _ hp), ?_, ?_⟩
      · have h1 := hs.len
        have h2 := sents_le_flat ss
        rw [List.length_take] at h1
        exact Nat.lt_of_le_of_lt (by omega : xs.length ≤ 1000) (by decide)
      refine ⟨_, rfl, some (.int (((flat (ss.take i)).length : Int) + 1 + (u.length : Nat))), xs ++ [.ref t], ?_, ?_, ?_, ?_⟩
      · rw [ep]; rfl
      · rw [hx]
        exact same_upd (e0.trans s2) np
      · exact upd_same
      · rw [hx, take_more hu]
        have lowp : Low p (upd (upd H' l (.lst (wv u))) t (.tup (wv u))) (upd (upd (upd H' l (.lst (wv u))) t (.tup (wv u))) p (.lst (xs ++ [.ref t]))) := (Low.refl _).upd_av (s2 _ _ hp)
        exact (SentsAt.snoc (hs.same s2) ⟨t, rfl, upd_same⟩).low lowp
    · rw [decide_eq_false (by
        have : i = ss.length := by omega
        rw [this, List.take_length]; omega : ¬ ((flat (ss.take i)).length : Int) < (flat ss).length)]
      refine iteF ⟨_, rfl, ?_⟩
      rw [List.take_of_length_le (by omega)] at hs
      exact k _ p xs e0 np hp hs
end
end Wc

namespace Wc
open PySem PySem.Spec PyProof.Rows L2
open Ut10 (Sent File Band)
theorem cut_to (xs : List V) (i : Nat) (h : i ≤ xs.length) {z : Int} (e : z = (i : Int)) : cutV xs none (some z) = xs.take i := by
  subst e
  have := cut_nat xs 0 i (Nat.zero_le _) h
  rw [List.drop_zero, Nat.sub_zero] at this
  exact this
theorem SentsAt.take {H : Hp} {vs : List V} {ss : List Sent} (h : SentsAt H vs ss) (i : Nat) : SentsAt H (vs.take i) (ss.take i) := by
  refine ⟨by rw [List.length_take, List.length_take, h.len], fun j u hj => ?_⟩
  rw [List.getElem?_take] at hj ⊢
  by_cases c : j < i
  · rw [if_pos c] at hj ⊢
    exact h.get j u hj
  · rw [if_neg c] at hj
    cases hj
theorem wv_modify {l : List Nat} {j n : Nat} (m : Nat) (h : l[j]? = some n) : wv (l.modify j (· + m)) = (wv l).set j (.int ((n : Int) + (m : Int))) := by
  refine List.ext_getElem? fun i => ?_
  unfold wv
  rw [List.getElem?_map, List.getElem?_modify, List.getElem?_set, List.getElem?_map]
  by_cases c : j = i
  · subst c
    rw [h, if_pos rfl, if_pos (by rw [List.length_map]; exact (List.getElem?_eq_some_iff.mp h).1)]
    show some (V.int (((if j = j then n + m else n) : Nat) : Int)) = _
    rw [if_pos rfl]
    rfl
  · rw [if_neg c]
    cases l[i]? with
    | none => rfl
    | some x =>
      show some (V.int (((if j = i then x + m else x) : Nat) : Int)) = _
      rw [if_neg c]
      rfl
theorem rep_zero (n : Nat) : (List.replicate n [V.int 0]).flatten = wv (List.replicate n 0) := by
  induction n with
  | zero => rfl
  | succ n ih =>
    rw [List.replicate_succ, List.flatten_cons, ih]
    rfl
section
variable {P : Program} {w : World} {K : PySem.W.Frag} {mg : Str → Option Value} {base : Heap}
/-! ### kinds_of -/
abbrev sKinds : Stmt := top 19
/-- the house's memory and bands, handed in -/
structure MB (K : PySem.W.Frag) (H : Hp) (am ab : Addr) (g : Ut10.St) : Prop where
  m : ∃ xm, H am = some (.lst xm) ∧ SentsAt H xm g.memory
  b : ∃ xb, H ab = some (.lst xb) ∧ BandsAt K H xb g.bands
theorem MB.same {H H' : Hp} {am ab : Addr} {g : Ut10.St} (x : MB K H am ab g) (e : Same H H') : MB K H' am ab g := by
  obtain ⟨⟨xm, h1, h2⟩, ⟨xb, h3, h4⟩⟩ := x
  exact ⟨⟨xm, e _ _ h1, h2.same e⟩, ⟨xb, e _ _ h3, h4.same e⟩⟩
def spKinds (K : PySem.W.Frag) : Sp := fun vs H Q _ => ∃ (a am ab : Addr) (xs : List V) (ss : List Sent) (g : Ut10.St), vs = [.ref a, .ref am, .ref ab] ∧ H a = some (.lst xs) ∧ SentsAt H xs ss ∧ MB K H am ab g ∧ Good g ∧ ss.length ≤ 500 ∧ (∀ x ∈ ss, Ut10.sentOk x = true) ∧
  ∀ (H' : Hp) (p : Addr), Same H H' → H p = none → H' p = some (.lst (wv (kRow g ss))) → Q (.ref p) H'
theorem scKinds : FnScope ["sentences", "memory", "bands", "k"] ["sentences", "memory", "bands"] (defScope sKinds) := ⟨rfl, rfl, rfl, by decide +kernel, rfl, by decide +kernel, by decide +kernel⟩
theorem ok_kinds {f : Addr} {fd : FuncData} (F : Fun K "kinds_of" "kinds_of" sKinds f fd) (T : Txt mg) (D1 : Df P w K mg base "kind_of" 5 ["words", "ahead", "memory", "bands"] (spKind K)) : FnOk P w K mg base CX0 7 f fd ["sentences", "memory", "bands"] (spKinds K) := by
  refine F.ok scKinds (fun vs H Q E h => ?_) (fun cdv A outer s0 H vs Q E hr h => ?_)
  · obtain ⟨a, am, ab, xs, ss, g, rfl, _⟩ := h
    rfl
  · obtain ⟨a, am, ab, xs, ss, g, rfl, ha, hs, B, G, hlen, oks, k⟩ := h
    refine ⟨_, pss_one (ps_ret (pe_lc (own := [("k", 3)]) (g := gName 3) (tt := tYes)
        (te := tCall (spKind K) [] E0 (tCons (tOp (rIxL K) (tVar 0) (tVar 3)) (tCons (tSl (rSlL K) (tVar 0) tNoPart (tPart (tVar 3))) (tCons (tVar 1) (tCons (tVar 2) tNil))))) rfl scKinds.nd
        (pi_range1 (by rfl) T.range (pa_cons (pe_callB call_len_seq (by rfl) T.len PySem.boot_len (pa_cons (pv 0) pa_nil)) pa_nil))
        (blkOk_by (N := ["sentences", "memory", "bands", "k"]) (sc := defScope sKinds) (by decide +kernel))
        (fun _ _ _ _ _ => pg_name (i := 3) scKinds.nd rfl (Or.inl rfl)) (fun _ _ _ _ _ => pts_nil)
        (fun _ _ _ _ _ => pe_df D1 (hr.mono (by decide)) (pa_cons (pe_ix ix_list (pv 0) (pv 3) (fun _ _ => rfl)) (pa_cons (pe_slice sl_list (pv 0) po_none (po_some (pv 3))) (pa_cons (pv 1) (pa_cons (pv 2) pa_nil))))))), ?_⟩
    refine ⟨_, rfl, a, _, rfl, .inl (SqL.of ha), _, rfl, by omega, by rw [hs.len]; omega, fun D nD => ?_⟩
    refine lc_range (lo := 0) (n := ((xs.length : Int)).toNat) (fun i H' => ∃ H0, Same H H0 ∧ H' = upd H0 D (.lst (wv (kRow g (ss.take i))))) ?_ ?_ ?_
    · exact ⟨H, Same.refl H, rfl⟩
    · rintro i H' hi ⟨H0, s1, rfl⟩
      have hi : i < ss.length := by rw [hs.len] at hi; omega
      obtain ⟨z, hz⟩ : ∃ z, ss[i]? = some z := ⟨ss[i], List.getElem?_eq_getElem hi⟩
      obtain ⟨v, hv, hvz⟩ := hs.at hz
      have e1 : Same H (upd H0 D (.lst (wv (kRow g (ss.take i))))) := same_upd s1 nD
      refine ⟨rfl, _, rfl, _, rfl, a, _, _, _, rfl, rfl, SqL.of (e1 _ _ ha), atZ hv (by omega), _, rfl, _, rfl, _, rfl, a, _, rfl, SqL.of (e1 _ _ ha), fun p np => ?_⟩
      have e2 := e1.trans (same_new (o := HO.lst (xs.take i)) np)
      rw [cut_to xs i (by rw [hs.len]; omega) (by omega)]
      obtain ⟨⟨xm, h1, h2⟩, ⟨xb, h3, h4⟩⟩ := B.same e2
      refine ⟨_, rfl, _, rfl, v, p, am, ab, xs.take i, xm, xb, z, ss.take i, g.memory, g.bands, rfl, hvz.same e2, upd_same, (hs.take i).same e2, h1, h2, SqL.of h3, h4, ?_, ?_, ?_, oks z (List.mem_of_getElem? hz), fun x hx => oks x (List.mem_of_mem_take hx), G.mem.2, fun H3 e3 => ?_⟩
      · rw [List.length_take]; omega
      · have := G.mem.1; omega
      · have := G.bands.1; omega
      refine ⟨_, (e3 _ _ ((same_new np) _ _ upd_same)), ?_, H3, e2.trans e3, ?_⟩
      · rw [wv_len, kRow_len, List.length_take]; exact small_line (by omega)
      · rw [take_more hz, kRow_snoc, wv_snoc]
    · rintro H' ⟨H0, s1, rfl⟩
      rw [hs.len, show ((ss.length : Int)).toNat = ss.length by omega, List.take_length]
      exact k _ D (same_upd s1 nD) nD upd_same
/-! ### words_by_kind -/
abbrev sWbk : Stmt := top 20
def spWbk (K : PySem.W.Frag) : Sp := fun vs H Q _ => ∃ (a am ab : Addr) (xs : List V) (ss : List Sent) (g : Ut10.St), vs = [.ref a, .ref am, .ref ab] ∧ H a = some (.lst xs) ∧ SentsAt H xs ss ∧ MB K H am ab g ∧ Good g ∧ ss.length ≤ 500 ∧ (∀ x ∈ ss, Ut10.sentOk x = true) ∧
  ∀ (H' : Hp) (p : Addr), Same H H' → H p = none → H' p = some (.lst (wv (cntRow g ss))) → Q (.ref p) H'
theorem scWbk : FnScope ["sentences", "memory", "bands", "counted", "kinds", "k"] ["sentences", "memory", "bands"] (defScope sWbk) := ⟨rfl, rfl, rfl, by decide +kernel, rfl, by decide +kernel, by decide +kernel⟩
theorem ok_wbk {f : Addr} {fd : FuncData} (F : Fun K "words_by_kind" "words_by_kind" sWbk f fd) (T : Txt mg) (D1 : Df P w K mg base "kinds_of" 7 ["sentences", "memory", "bands"] (spKinds K)) : FnOk P w K mg base CX0 8 f fd ["sentences", "memory", "bands"] (spWbk K) := by
  refine F.ok scWbk (fun vs H Q E h => ?_) (fun cdv A outer s0 H vs Q E hr h => ?_)
  · obtain ⟨a, am, ab, xs, ss, g, rfl, _⟩ := h
    rfl
  · obtain ⟨a, am, ab, xs, ss, g, rfl, ha, hs, B, G, hlen, oks, k⟩ := h
    refine ⟨_, pss_cons (ps_set (i := 3) scWbk.nd rfl (Or.inl rfl) (pe_op op_rep (pe_lst (pa_cons pe_int pa_nil)) (pe_op op_add (pe_callB call_len_seq (by rfl) T.len PySem.boot_len (pa_cons (pv 2) pa_nil)) pe_int)))
      (pss_cons (ps_set (i := 4) scWbk.nd rfl (Or.inl rfl) (pe_df D1 hr (pa_cons (pv 0) (pa_cons (pv 1) (pa_cons (pv 2) pa_nil)))))
      (pss_cons (ps_for PassesOwn.never rfl (pi_range1 (by rfl) T.range (pa_cons (pe_callB call_len_seq (by rfl) T.len PySem.boot_len (pa_cons (pv 0) pa_nil)) pa_nil)) (pg_name (i := 5) scWbk.nd rfl (Or.inl rfl))
        (pss_one (ps_asg (pe_op op_add (pe_ix ix_list (pv 3) (pe_ix ix_list (pv 4) (pv 5) (fun _ _ => rfl)) (fun _ _ => rfl)) (pe_callB call_len_seq (by rfl) T.len PySem.boot_len (pa_cons (pe_ix ix_list (pv 0) (pv 5) (fun _ _ => rfl)) pa_nil)))
          (pg_sub (pv 3) (pe_ix ix_list (pv 4) (pv 5) (fun _ _ => rfl)) set_list))))
      (pss_one (ps_ret (pv 3))))), ?_⟩
    obtain ⟨xb, hb, hsb⟩ := id B.b
    have lb := G.bands.1
    refine ⟨by decide, fun l nl => ?_⟩
    have e1 : Same H (upd H l (.lst [.int 0])) := same_new nl
    refine ⟨_, rfl, ab, _, rfl, .inl (SqL.of (e1 _ _ hb)), _, _, rfl, rfl, l, _, _, rfl, rfl, upd_same, by omega, by rw [hsb.len]; omega, ?_, fun c nc => ?_⟩
    · rw [hsb.len]
      show 1 * _ ≤ sizeLine
      exact Nat.le_of_lt (small_line (by omega))
    have ec : (List.replicate (((xb.length : Int) + 2).toNat) [V.int 0]).flatten = wv (cntRow g (ss.take 0)) := by
      rw [rep_zero, List.take_zero, cntRow_nil, hsb.len, show ((g.bands.length : Int) + 2).toNat = g.bands.length + 2 by omega]
    have e2 := e1.trans (same_new (o := HO.lst (wv (cntRow g (ss.take 0)))) nc)
    rw [ec]
    refine ⟨_, rfl, _, rfl, _, rfl, a, am, ab, xs, ss, g, rfl, e2 _ _ ha, hs.same e2, B.same e2, G, hlen, oks, fun H3 q e3 nq hq => ?_⟩
    have e4 := e2.trans e3
    have nc0 : H c = none := e1.free nc
    have ncq : c ≠ q := ne_of_none upd_same nq
    refine ⟨_, rfl, a, _, rfl, .inl (SqL.of (e4 _ _ ha)), _, rfl, by omega, by rw [hs.len]; omega, ?_⟩
    refine for_range (lo := 0) (n := ((xs.length : Int)).toNat) (fun i σ H' => ∃ x5 : Option V, σ = [some (.ref a), some (.ref am), some (.ref ab), some (.ref c), some (.ref q), x5] ∧ Same H H' ∧ H' c = some (.lst (wv (cntRow g (ss.take i)))) ∧ H' q = some (.lst (wv (kRow g ss)))) ⟨_, rfl, e4, e3 _ _ upd_same, hq⟩ ?_ ?_
    · rintro i σ H' hi ⟨x5, rfl, e5, hc, hq'⟩
      have hi : i < ss.length := by rw [hs.len] at hi; omega
      obtain ⟨z, hz⟩ : ∃ z, ss[i]? = some z := ⟨ss[i], List.getElem?_eq_getElem hi⟩
      obtain ⟨v, hv, tv, rfl, htv⟩ := hs.at hz
      have gk := kRow_get g hz
      have hk : Ut10.kindOf g.bands g.memory (ss.take i) z < g.bands.length + 2 := by have := kindOf_le g.bands g.memory (ss.take i) z; omega
      have gc := cntRow_get g (ss.take i) hk
      refine ⟨_, rfl, _, rfl, _, rfl, q, _, _, _, rfl, rfl, SqL.of hq', atZ (wv_get gk) (by omega), c, _, _, _, rfl, rfl, SqL.of hc, atI_nat (wv_get gc), _, rfl, _, rfl, a, _, _, _, rfl, rfl, SqL.of (e5 _ _ ha), atZ hv (by omega), tv, _, rfl, .inr (SqT.of (e5 _ _ htv)), _, _, rfl, rfl, ?_⟩
      refine ⟨_, rfl, _, rfl, _, rfl, q, _, _, _, rfl, rfl, SqL.of hq', atZ (wv_get gk) (by omega), c, _, _, _, rfl, rfl, hc, ixZ (by rw [wv_len, cntRow_len]; exact hk) rfl, ?_⟩
      refine ⟨_, rfl, same_upd e5 nc0, ?_, by rw [upd_ne ncq.symm]; exact hq'⟩
      rw [upd_same, take_more hz, cntRow_snoc, wv_modify _ gc, wv_len]
    · rintro σ H' ⟨x5, rfl, e5, hc, hq'⟩
      rw [hs.len, show ((ss.length : Int)).toNat = ss.length by omega, List.take_length] at hc
      exact ⟨_, rfl, k _ c e5 nc0 hc⟩
/-! ### weight_of -/
abbrev sWt : Stmt := top 21
def spWt (K : PySem.W.Frag) : Sp := fun vs H Q _ => ∃ (ac ab : Addr) (xb : List V) (ss : List Sent) (g : Ut10.St), vs = [.ref ac, .int (g.again : Nat), .ref ab] ∧ H ac = some (.lst (wv (cntRow g ss))) ∧ H ab = some (.lst xb) ∧ BandsAt K H xb g.bands ∧ Good g ∧
  ∀ (H' : Hp), Same H H' → Q (.int (wOf g ss : Nat)) H'
theorem scWt : FnScope ["counted", "again", "bands", "paid", "band", "k"] ["counted", "again", "bands"] (defScope sWt) := ⟨rfl, rfl, rfl, by decide +kernel, rfl, by decide +kernel, by decide +kernel⟩
theorem ok_wt {f : Addr} {fd : FuncData} (F : Fun K "weight_of" "weight_of" sWt f fd) (T : Txt mg) : FnOk P w K mg base CX0 1 f fd ["counted", "again", "bands"] (spWt K) := by
  refine F.ok scWt (fun vs H Q E h => ?_) (fun cdv A outer s0 H vs Q E hr h => ?_)
  · obtain ⟨ac, ab, xb, ss, g, rfl, _⟩ := h
    rfl
  · obtain ⟨ac, ab, xb, ss, g, rfl, hc, hb, hsb, G, k⟩ := h
    refine ⟨_, pss_cons (ps_set (i := 3) scWt.nd rfl (Or.inr rfl) (pe_op op_cat (pe_op op_cat (pe_lst (pa_cons (pv 1) pa_nil))
          (pe_lc (own := [("band", 4)]) (g := gName 4) (tt := tYes) (te := tOp (rIxT K) (tVar 4) (tC (.int 1))) rfl scWt.nd (pi_list (pv 2)) (blkOk_by (N := ["counted", "again", "bands", "paid", "band", "k"]) (sc := defScope sWt) (by decide +kernel))
            (fun _ _ _ _ _ => pg_name (i := 4) scWt.nd rfl (Or.inl rfl)) (fun _ _ _ _ _ => pts_nil) (fun _ _ _ _ _ => pe_ix ix_tup (pv 4) pe_int (fun _ _ => rfl))))
          (pe_lst (pa_cons (pe_cst T.cNew) pa_nil))))
      (pss_one (ps_ret (pe_callB (cr_sum rfl) (by rfl) T.sum (by decide +kernel) (pa_cons
        (pe_lc (own := [("k", 5)]) (g := gName 5) (tt := tYes) (te := tOp (rI CMul fun i j => V.int (i * j)) (tOp (rIxL K) (tVar 0) (tVar 5)) (tOp (rIxL K) (tVar 3) (tVar 5))) rfl scWt.nd
          (pi_range1 (by rfl) T.range (pa_cons (pe_callB call_len_seq (by rfl) T.len PySem.boot_len (pa_cons (pv 3) pa_nil)) pa_nil)) (blkOk_by (N := ["counted", "again", "bands", "paid", "band", "k"]) (sc := defScope sWt) (by decide +kernel))
          (fun _ _ _ _ _ => pg_name (i := 5) scWt.nd rfl (Or.inl rfl)) (fun _ _ _ _ _ => pts_nil)
          (fun _ _ _ _ _ => pe_op op_mul (pe_ix ix_list (pv 0) (pv 5) (fun _ _ => rfl)) (pe_ix ix_list (pv 3) (pv 5) (fun _ _ => rfl)))) pa_nil)))), ?_⟩
    have lb := G.bands.1
    refine ⟨_, rfl, one_line, fun l1 n1 => ?_⟩
    have e1 : Same H (upd H l1 (.lst [.int (g.again : Nat)])) := same_new n1
    refine ⟨_, rfl, ab, rfl, ⟨_, SqL.of (e1 _ _ hb)⟩, fun D nD => lc_list (K := K) (a := ab) (xs := xb) (fun i H' => H' = upd (upd H l1 (.lst [.int (g.again : Nat)])) D (.lst ((g.bands.take i).map fun b => V.int (b.2 : Nat)))) ?_ ?_ ?_ ?_⟩
    · rfl
    · rintro i H' _ rfl
      exact SqL.of ((same_new nD) _ _ (e1 _ _ hb))
    · rintro i x H' hi rfl
      obtain ⟨z, hz, hzz⟩ := hsb.get i x hi
      obtain ⟨t, rfl, ht⟩ := (hzz.same (e1.trans (same_new (o := HO.lst ((g.bands.take i).map fun b => V.int (b.2 : Nat))) nD))).sq
      refine ⟨rfl, _, rfl, t, _, _, _, rfl, rfl, ht, rfl, _, upd_same, ?_, ?_⟩
      · rw [List.length_map, List.length_take]; exact small_line (by omega)
      · rw [upd_upd, take_more hz, List.map_append]; rfl
    · rintro H' rfl
      rw [hsb.len, List.take_length]
      have n1D : l1 ≠ D := ne_of_none upd_same nD
      have e2 := e1.trans (same_new (o := HO.lst (g.bands.map fun b => V.int (b.2 : Nat))) nD)
      refine ⟨l1, D, _, _, rfl, rfl, (same_new nD) _ _ upd_same, upd_same, ?_, fun p2 n2 => ?_⟩
      · rw [List.length_map]; exact Nat.le_of_lt (small_line (by simp; omega))
      have e3 := e2.trans (same_new (o := HO.lst ([V.int (g.again : Nat)] ++ g.bands.map fun b => V.int (b.2 : Nat))) n2)
      refine ⟨by decide, fun l3 n3 => ?_⟩
      have e4 := e3.trans (same_new (o := HO.lst [V.int 100]) n3)
      refine ⟨p2, l3, _, _, rfl, rfl, (same_new n3) _ _ upd_same, upd_same, ?_, fun p4 n4 => ?_⟩
      · rw [List.length_append, List.length_map]; exact Nat.le_of_lt (small_line (by simp; omega))
      have ep : [V.int (g.again : Nat)] ++ (g.bands.map fun b => V.int (b.2 : Nat)) ++ [V.int 100] = wv (paid g) := by
        unfold wv paid
        rw [List.map_append, List.map_append, List.map_map]
        rfl
      rw [ep]
      have e5 := e4.trans (same_new (o := HO.lst (wv (paid g))) n4)
      refine ⟨_, rfl, p4, _, rfl, .inl (SqL.of upd_same), _, rfl, by omega, by rw [wv_len, paid_len]; omega, fun D2 nD2 => ?_⟩
      rw [wv_len, paid_len, show (((g.bands.length + 2 : Nat) : Int)).toNat = g.bands.length + 2 by omega]
      generalize hH5 : upd (upd (upd (upd (upd H l1 (.lst [.int (g.again : Nat)])) D (.lst (g.bands.map fun b => V.int (b.2 : Nat)))) p2 (.lst ([V.int (g.again : Nat)] ++ g.bands.map fun b => V.int (b.2 : Nat)))) l3 (.lst [V.int 100])) p4 (.lst (wv (paid g))) = H5 at e5 nD2 ⊢
      have hp5 : H5 p4 = some (.lst (wv (paid g))) := by rw [← hH5]; exact upd_same
      refine lc_range (lo := 0) (n := g.bands.length + 2) (fun i H' => H' = upd H5 D2 (.lst ((List.range i).map fun k => V.int ((cnt (kf g ss) k * Ut10.pays g k : Nat))))) ?_ ?_ ?_
      · rfl
      · rintro i H' hi rfl
        have gc := cntRow_get g ss hi
        have gp := paid_get g hi
        have pl := pays_le G i
        refine ⟨rfl, _, rfl, _, rfl, ac, _, _, _, rfl, rfl, SqL.of ((same_new nD2) _ _ (e5 _ _ hc)), atZ (wv_get gc) (by omega), _, rfl, _, rfl, p4, _, _, _, rfl, rfl, SqL.of ((same_new nD2) _ _ hp5), atZ (wv_get gp) (by omega), _, _, rfl, rfl, .inr ⟨by omega, by omega⟩, _, upd_same, ?_, ?_⟩
        · rw [List.length_map, List.length_range]; exact small_line (by omega)
        · rw [upd_upd, List.range_succ, List.map_append]; rfl
      · rintro H' rfl
        have es : ((List.range (g.bands.length + 2)).map fun k => V.int ((cnt (kf g ss) k * Ut10.pays g k : Nat))) = (((List.range (g.bands.length + 2)).map fun k => cnt (kf g ss) k * Ut10.pays g k).map fun n : Nat => (n : Int)).map V.int := by
          rw [List.map_map, List.map_map]; rfl
        refine ⟨D2, _, rfl, SqL.of (by rw [es]; exact upd_same), ?_⟩
        rw [sum_cast, ← wOf_sum]
        exact k _ (e5.trans (same_new nD2))
end
end Wc

namespace Wc
open PySem PySem.Spec PyProof.Rows L2
open Ut10 (Sent File Band)
theorem max_is {xs : List Nat} {m : Int} (h : m ∈ xs.map fun n : Nat => (n : Int)) (hle : ∀ y ∈ xs.map (fun n : Nat => (n : Int)), y ≤ m) : m = (Ut10.most xs : Nat) := by
  obtain ⟨n, hn, rfl⟩ := List.mem_map.mp h
  rw [most_is hn fun x hx => by
    have := hle (x : Int) (List.mem_map.mpr ⟨x, hx, rfl⟩)
    omega]
theorem min_is {xs : List Nat} {m : Int} (h : m ∈ xs.map fun n : Nat => (n : Int)) (hle : ∀ y ∈ xs.map (fun n : Nat => (n : Int)), m ≤ y) : m = (Ut10.fewest xs : Nat) := by
  obtain ⟨n, hn, rfl⟩ := List.mem_map.mp h
  rw [few_is hn fun x hx => by
    have := hle (x : Int) (List.mem_map.mpr ⟨x, hx, rfl⟩)
    omega]
theorem flat_take_le {α β : Type} (F : α → List β) (l : List α) (j : Nat) : ((l.take j).flatMap F).length ≤ (l.flatMap F).length := by
  have e : l.flatMap F = (l.take j).flatMap F ++ (l.drop j).flatMap F := by rw [← List.flatMap_append, List.take_append_drop]
  rw [e, List.length_append]
  omega
section
variable {P : Program} {w : World} {K : PySem.W.Frag} {mg : Str → Option Value} {base : Heap}
/-! ### all_deals -/
abbrev sDeals : Stmt := top 1
def spDeals : Sp := fun vs H Q _ => ∃ (n h : Nat), vs = [.int n, .int h] ∧ n ≤ 6 ∧ h ≤ 4 ∧
  ∀ (H' : Hp) (p : Addr) (xs : List V), Same H H' → H p = none → H' p = some (.lst xs) → SentsAt H' xs (Ut10.deals h n) → Q (.ref p) H'
theorem scDeals : FnScope ["how_many", "hands", "deals", "k", "longer", "deal", "hand"] ["how_many", "hands"] (defScope sDeals) := ⟨rfl, rfl, rfl, by decide +kernel, rfl, by decide +kernel, by decide +kernel⟩
theorem ok_deals {f : Addr} {fd : FuncData} (F : Fun K "all_deals" "all_deals" sDeals f fd) (T : Txt mg) : FnOk P w K mg base CX0 1 f fd ["how_many", "hands"] spDeals := by
  refine F.ok scDeals (fun vs H Q E h => ?_) (fun cdv A outer s0 H vs Q E hr h => ?_)
  · obtain ⟨n, h, rfl, _⟩ := h
    rfl
  · obtain ⟨n, h, rfl, ln, lh, k⟩ := h
    refine ⟨_, pss_cons (ps_set (i := 2) scDeals.nd rfl (Or.inl rfl) (pe_lst (pa_cons (pe_tup pa_nil) pa_nil)))
      (pss_cons (ps_for PassesOwn.never rfl (pi_range1 (by rfl) T.range (pa_cons (pv 0) pa_nil)) (pg_name (i := 3) scDeals.nd rfl (Or.inl rfl))
        (pss_cons (ps_set (i := 4) scDeals.nd rfl (Or.inl rfl) (pe_lst pa_nil))
        (pss_cons (ps_for PassesOwn.never rfl (pi_list (pv 2)) (pg_name (i := 5) scDeals.nd rfl (Or.inr rfl))
          (pss_one (ps_expr (pe_bm PySem.F.plainAttrs_list PySem.F.slot_list_extend PySem.F.type_list_extend mt_extend (pv 4) (pa_cons
            (pe_lc (own := [("hand", 6)]) (g := gName 6) (tt := tYes) (te := tOp (rCatA K) (tVar 5) (tTup (tCons (tVar 6) tNil))) rfl scDeals.nd
              (pi_range1 (by rfl) T.range (pa_cons (pv 1) pa_nil)) (blkOk_by (N := ["how_many", "hands", "deals", "k", "longer", "deal", "hand"]) (sc := defScope sDeals) (by decide +kernel))
              (fun _ _ _ _ _ => pg_name (i := 6) scDeals.nd rfl (Or.inl rfl)) (fun _ _ _ _ _ => pts_nil)
              (fun _ _ _ _ _ => pe_op op_catA (pv 5) (pe_tup (pa_cons (pv 6) pa_nil)))) pa_nil)))))
        (pss_one (ps_set (i := 2) scDeals.nd rfl (Or.inl rfl) (pv 4))))))
      (pss_one (ps_ret (pv 2)))), ?_⟩
    refine ⟨Nat.zero_le _, fun t nt => ⟨by show 1 ≤ sizeLine; decide, fun l nl => ?_⟩⟩
    have e1 : Same H (upd H t (.tup [])) := same_new nt
    have e2 := e1.trans (same_new (o := HO.lst [V.ref t]) nl)
    refine ⟨_, rfl, _, rfl, by omega, by omega, ?_⟩
    refine for_range (lo := 0) (n := ((n : Int)).toNat) (fun i σ H' => ∃ (p : Addr) (xs : List V) (x3 x4 x5 x6 : Option V), σ = [some (.int n), some (.int h), some (.ref p), x3, x4, x5, x6] ∧ Same H H' ∧ H p = none ∧ H' p = some (.lst xs) ∧ SentsAt H' xs (Ut10.deals h i)) ⟨l, _, _, _, _, _, rfl, e2, e1.free nl, upd_same, ?_⟩ ?_ ?_
    · refine ⟨rfl, fun i v hi => ?_⟩
      match i, hi with
      | 0, hi => cases hi; exact ⟨[], rfl, t, rfl, (same_new nl) _ _ upd_same⟩
      | i + 1, hi => simp at hi
    · rintro i σ H' hi ⟨p, xs, x3, x4, x5, x6, rfl, e3, np, hp, hs⟩
      have hi : i < n := by omega
      have big := deals_few (h := h) (n := i + 1) lh (by omega)
      rw [deals_snoc] at big
      have big0 := deals_few (h := h) (n := i) lh (by omega)
      refine ⟨Nat.zero_le _, fun lg nlg => ?_⟩
      have e4 := e3.trans (same_new (o := HO.lst []) nlg)
      have nlg0 : H lg = none := e3.free nlg
      have npl : p ≠ lg := ne_of_none hp nlg
      refine ⟨_, rfl, p, rfl, ⟨_, SqL.of ((same_new nlg) _ _ hp)⟩, for_list (K := K) (a := p) (xs := xs) (fun j σ H'' => ∃ (x5 x6 : Option V) (ys : List V), σ = [some (.int n), some (.int h), some (.ref p), some (.int (0 + (i : Int))), some (.ref lg), x5, x6] ∧ Same H H'' ∧ H'' p = some (.lst xs) ∧ SentsAt H'' xs (Ut10.deals h i) ∧ H'' lg = some (.lst ys) ∧ SentsAt H'' ys (((Ut10.deals h i).take j).flatMap fun d => (List.range h).map fun x => d ++ [x])) ?_ ?_ ?_ ?_⟩
      · exact ⟨_, _, [], rfl, e4, (same_new nlg) _ _ hp, hs.same (same_new nlg), upd_same, SentsAt.nil⟩
      · rintro j σ H'' _ ⟨x5, x6, ys, rfl, _, hp2, _⟩
        exact SqL.of hp2
      · rintro j x σ H'' hj ⟨x5, x6, ys, rfl, e5, hp2, hs2, hlg, hys⟩
        obtain ⟨d, hd, tv, rfl, htv⟩ := hs2.get j x hj
        have big2 := flat_take_le (fun d => (List.range h).map fun x => d ++ [x]) (Ut10.deals h i) (j + 1)
        have more := take_flat (F := fun d => (List.range h).map fun x => d ++ [x]) hd
        have dl : d.length ≤ 6 := by
          have := (mem_deals.mp (List.mem_of_getElem? hd)).1
          omega
        refine ⟨_, rfl, .inl ⟨rfl, _, SqL.of hlg⟩, _, rfl, _, rfl, by omega, by omega, fun D nD => ?_⟩
        have nDl : lg ≠ D := ne_of_none hlg nD
        refine lc_range (lo := 0) (n := ((h : Int)).toNat) (fun m H3 => ∃ zs, Same H'' H3 ∧ H3 D = some (.lst zs) ∧ SentsAt H3 zs ((List.range m).map fun y => d ++ [y])) ⟨[], same_new nD, upd_same, SentsAt.nil⟩ ?_ ?_
        · rintro m H3 hm ⟨zs, e6, hD, hz⟩
          have lz : zs.length ≤ 4 := by
            have := hz.len
            rw [List.length_map, List.length_range] at this
            omega
          refine ⟨rfl, _, rfl, _, rfl, by show 1 ≤ sizeLine; decide, fun t2 nt2 => ?_⟩
          have e7 : Same H3 (upd H3 t2 (.tup [.int (0 + (m : Int))])) := same_new nt2
          have ew : [V.int (0 + (m : Int))] = wv [m] := by
            show _ = [V.int (m : Int)]
            rw [Int.zero_add]
          refine ⟨tv, t2, _, _, rfl, rfl, SqT.of (e7 _ _ (e6 _ _ htv)), SqT.of upd_same, ?_, fun ed => ?_, fun _ z => (by cases z), fun hne _ p2 np2 => ?_⟩
          · rw [wv_len]; exact Nat.le_of_lt (small_line (by simp; omega))
          · have ed : d = [] := List.map_eq_nil_iff.mp ed
            subst ed
            refine ⟨zs, e7 _ _ hD, small_line (by omega), zs ++ [.ref t2], same_upd (e6.trans e7) nD, upd_same, ?_⟩
            rw [List.range_succ, List.map_append]
            have lowD := (Low.refl _).upd_av (o := HO.lst (zs ++ [.ref t2])) (e7 _ _ hD)
            exact (SentsAt.snoc (hz.same e7) ⟨t2, rfl, by rw [upd_same, ew]; rfl⟩).low lowD
          · have e8 := e7.trans (same_new (o := HO.tup (wv d ++ [.int (0 + (m : Int))])) np2)
            refine ⟨zs, e8 _ _ hD, small_line (by omega), zs ++ [.ref p2], same_upd (e6.trans e8) nD, upd_same, ?_⟩
            rw [List.range_succ, List.map_append]
            have lowD := (Low.refl _).upd_av (o := HO.lst (zs ++ [.ref p2])) (e8 _ _ hD)
            exact (SentsAt.snoc (hz.same e8) ⟨p2, rfl, by rw [upd_same, ew, ← wv_append]⟩).low lowD
        · rintro H3 ⟨zs, e6, hD, hz⟩
          rw [show ((h : Int)).toNat = h by omega] at hz
          refine ⟨lg, D, ys, zs, rfl, rfl, e6 _ _ hlg, hD, ?_, ?_⟩
          · rw [more, List.length_append] at big2
            have h1 := hys.len
            have h2 := hz.len
            refine Nat.le_of_lt (small_line ?_)
            omega
          · have low := (Low.refl H3).upd_av (o := HO.lst (ys ++ zs)) (e6 _ _ hlg)
            refine ⟨_, _, ys ++ zs, rfl, same_upd (e5.trans e6) nlg0, by rw [upd_ne npl]; exact e6 _ _ hp2, (hs2.same e6).low low, upd_same, ?_⟩
            rw [more]
            exact ((hys.same e6).append hz).low low
      · rintro σ H'' ⟨x5, x6, ys, rfl, e5, hp2, hs2, hlg, hys⟩
        rw [hs2.len, List.take_length, ← deals_snoc] at hys
        exact ⟨_, rfl, lg, ys, _, _, _, _, rfl, e5, nlg0, hlg, hys⟩
    · rintro σ H' ⟨p, xs, x3, x4, x5, x6, rfl, e3, np, hp, hs⟩
      rw [show ((n : Int)).toNat = n by omega] at hs
      exact ⟨_, rfl, k _ p xs e3 np hp hs⟩
/-! ### loads_of -/
abbrev sLoads : Stmt := top 2
def spLoads : Sp := fun vs H Q _ => ∃ (v : V) (aw : Addr) (d ws : List Nat) (h : Nat), vs = [v, .ref aw, .int h] ∧ SentAt H v d ∧ H aw = some (.lst (wv ws)) ∧ d.length = ws.length ∧ (∀ x ∈ d, x < h) ∧ h ≤ 1000 ∧ ws.length ≤ 1000 ∧
  ∀ (H' : Hp) (p : Addr), Same H H' → H p = none → H' p = some (.lst (wv (Ut10.loads ws h d))) → Q (.ref p) H'
theorem scLoads : FnScope ["deal", "weights", "hands", "loads", "k"] ["deal", "weights", "hands"] (defScope sLoads) := ⟨rfl, rfl, rfl, by decide +kernel, rfl, by decide +kernel, by decide +kernel⟩
theorem ok_loads {f : Addr} {fd : FuncData} (F : Fun K "loads_of" "loads_of" sLoads f fd) (T : Txt mg) : FnOk P w K mg base CX0 1 f fd ["deal", "weights", "hands"] spLoads := by
  refine F.ok scLoads (fun vs H Q E h => ?_) (fun cdv A outer s0 H vs Q E hr h => ?_)
  · obtain ⟨v, aw, d, ws, h, rfl, _⟩ := h
    rfl
  · obtain ⟨v, aw, d, ws, h, rfl, ⟨tv, rfl, htv⟩, hw, el, lt, lh, lw, k⟩ := h
    refine ⟨_, pss_cons (ps_set (i := 3) scLoads.nd rfl (Or.inl rfl) (pe_op op_rep (pe_lst (pa_cons pe_int pa_nil)) (pv 2)))
      (pss_cons (ps_for PassesOwn.never rfl (pi_range1 (by rfl) T.range (pa_cons (pe_callB call_len_seq (by rfl) T.len PySem.boot_len (pa_cons (pv 0) pa_nil)) pa_nil)) (pg_name (i := 4) scLoads.nd rfl (Or.inl rfl))
        (pss_one (ps_asg (pe_op op_add (pe_ix ix_list (pv 3) (pe_ix ix_tup (pv 0) (pv 4) (fun _ _ => rfl)) (fun _ _ => rfl)) (pe_ix ix_list (pv 1) (pv 4) (fun _ _ => rfl)))
          (pg_sub (pv 3) (pe_ix ix_tup (pv 0) (pv 4) (fun _ _ => rfl)) set_list))))
      (pss_one (ps_ret (pv 3)))), ?_⟩
    refine ⟨by decide, fun l nl => ?_⟩
    have e1 : Same H (upd H l (.lst [.int 0])) := same_new nl
    refine ⟨_, rfl, l, _, _, rfl, rfl, upd_same, by omega, by omega, ?_, fun p np => ?_⟩
    · show 1 * _ ≤ sizeLine
      exact Nat.le_of_lt (small_line (by omega))
    have np0 : H p = none := e1.free np
    have ec : (List.replicate ((h : Int)).toNat [V.int 0]).flatten = wv (Ut10.loads (ws.take 0) h (d.take 0)) := by
      rw [rep_zero, List.take_zero, List.take_zero, loads_nil, show ((h : Int)).toNat = h by omega]
    rw [ec]
    have e2 := e1.trans (same_new (o := HO.lst (wv (Ut10.loads (ws.take 0) h (d.take 0)))) np)
    refine ⟨_, rfl, tv, _, rfl, .inr (SqT.of (e2 _ _ htv)), _, rfl, by omega, by rw [wv_len]; omega, ?_⟩
    refine for_range (lo := 0) (n := (((wv d).length : Int)).toNat) (fun i σ H' => ∃ x4 : Option V, σ = [some (.ref tv), some (.ref aw), some (.int h), some (.ref p), x4] ∧ Same H H' ∧ H' p = some (.lst (wv (Ut10.loads (ws.take i) h (d.take i))))) ⟨_, rfl, e2, upd_same⟩ ?_ ?_
    · rintro i σ H' hi ⟨x4, rfl, e3, hp⟩
      have hi : i < d.length := by rw [wv_len] at hi; omega
      obtain ⟨z, hz⟩ : ∃ z, d[i]? = some z := ⟨d[i], List.getElem?_eq_getElem hi⟩
      obtain ⟨y, hy⟩ : ∃ y, ws[i]? = some y := ⟨ws[i]'(by omega), List.getElem?_eq_getElem _⟩
      have hzh : z < h := lt z (List.mem_of_getElem? hz)
      have gl := loads_get (ws.take i) h (d.take i) z hzh
      refine ⟨_, rfl, _, rfl, _, rfl, tv, _, _, _, rfl, rfl, SqT.of (e3 _ _ htv), atZ (wv_get hz) (by omega), p, _, _, _, rfl, rfl, SqL.of hp, atI_nat (wv_get gl), _, rfl, _, rfl, aw, _, _, _, rfl, rfl, SqL.of (e3 _ _ hw), atZ (wv_get hy) (by omega), _, _, rfl, rfl, ?_⟩
      refine ⟨_, rfl, _, rfl, _, rfl, tv, _, _, _, rfl, rfl, SqT.of (e3 _ _ htv), atZ (wv_get hz) (by omega), p, _, _, _, rfl, rfl, hp, ixZ (by rw [wv_len, loads_len]; exact hzh) rfl, ?_⟩
      refine ⟨_, rfl, same_upd e3 np0, ?_⟩
      rw [upd_same, take_more hz, take_more hy, loads_snoc _ _ _ _ _ (by rw [List.length_take, List.length_take, el]), wv_modify _ gl]
    · rintro σ H' ⟨x4, rfl, e3, hp⟩
      rw [wv_len, show ((d.length : Int)).toNat = d.length by omega, List.take_length, el, List.take_length] at hp
      exact ⟨_, rfl, k _ p e3 np0 hp⟩
/-! ### is_better -/
abbrev sBet : Stmt := top 3
def spBet : Sp := fun vs H Q _ => ∃ (a b : Addr) (xs ys : List Nat), vs = [.ref a, .ref b] ∧ H a = some (.lst (wv xs)) ∧ H b = some (.lst (wv ys)) ∧ 0 < xs.length ∧ 0 < ys.length ∧
  Q (.bl (bet (Ut10.most xs, Ut10.fewest xs) (Ut10.most ys, Ut10.fewest ys))) H
theorem scBet : FnScope ["loads", "others"] ["loads", "others"] (defScope sBet) := ⟨rfl, rfl, rfl, by decide +kernel, rfl, by decide +kernel, by decide +kernel⟩
theorem ok_bet {f : Addr} {fd : FuncData} (F : Fun K "is_better" "is_better" sBet f fd) (T : Txt mg) : FnOk P w K mg base CX0 1 f fd ["loads", "others"] spBet := by
  refine F.ok scBet (fun vs H Q E h => ?_) (fun cdv A outer s0 H vs Q E hr h => ?_)
  · obtain ⟨a, b, xs, ys, rfl, _⟩ := h
    rfl
  · obtain ⟨a, b, xs, ys, rfl, ha, hb, lx, ly, k⟩ := h
    refine ⟨_, pss_cons (ps_if (pt_cmpR op_ne (pe_callB (cr_max rfl) (by rfl) T.max (by decide +kernel) (pa_cons (pv 0) pa_nil)) (pe_callB (cr_max rfl) (by rfl) T.max (by decide +kernel) (pa_cons (pv 1) pa_nil)) (nomark _))
        (pss_one (ps_ret (pe_cmpR op_lt (pe_callB (cr_max rfl) (by rfl) T.max (by decide +kernel) (pa_cons (pv 0) pa_nil)) (pe_callB (cr_max rfl) (by rfl) T.max (by decide +kernel) (pa_cons (pv 1) pa_nil)) (nomark _)))) pss_nil)
      (pss_one (ps_ret (pe_cmpR op_gt (pe_callB (cr_min rfl) (by rfl) T.min (by decide +kernel) (pa_cons (pv 0) pa_nil)) (pe_callB (cr_min rfl) (by rfl) T.min (by decide +kernel) (pa_cons (pv 1) pa_nil)) (nomark _)))), ?_⟩
    have sa : SqL K H a ((xs.map fun n : Nat => (n : Int)).map V.int) := by rw [← wv_ints]; exact SqL.of ha
    have sb : SqL K H b ((ys.map fun n : Nat => (n : Int)).map V.int) := by rw [← wv_ints]; exact SqL.of hb
    have la : 0 < (xs.map fun n : Nat => (n : Int)).length := by rw [List.length_map]; exact lx
    have lb : 0 < (ys.map fun n : Nat => (n : Int)).length := by rw [List.length_map]; exact ly
    refine ⟨_, rfl, a, _, rfl, sa, la, fun m1 h1 g1 => ?_⟩
    obtain rfl := max_is h1 g1
    refine ⟨_, rfl, b, _, rfl, sb, lb, fun m2 h2 g2 => ?_⟩
    obtain rfl := max_is h2 g2
    refine ⟨rfl, _, rfl, ?_⟩
    by_cases c : Ut10.most xs = Ut10.most ys
    · rw [decide_eq_true (by rw [c])]
      refine iteF ?_
      refine ⟨_, rfl, a, _, rfl, sa, la, fun m3 h3 g3 => ?_⟩
      obtain rfl := min_is h3 g3
      refine ⟨_, rfl, b, _, rfl, sb, lb, fun m4 h4 g4 => ?_⟩
      obtain rfl := min_is h4 g4
      refine ⟨_, _, rfl, rfl, ?_⟩
      have e : bet (Ut10.most xs, Ut10.fewest xs) (Ut10.most ys, Ut10.fewest ys) = decide (((Ut10.fewest ys : Nat) : Int) < (Ut10.fewest xs : Nat)) := by
        rw [Bool.eq_iff_iff, bet_iff, decide_eq_true_eq]
        show _ < _ ∨ _ = _ ∧ _ < _ ↔ _
        omega
      rw [e] at k
      exact k
    · rw [decide_eq_false (fun z => c (by have := V.int.inj z; omega))]
      refine iteT ?_
      refine ⟨_, rfl, a, _, rfl, sa, la, fun m3 h3 g3 => ?_⟩
      obtain rfl := max_is h3 g3
      refine ⟨_, rfl, b, _, rfl, sb, lb, fun m4 h4 g4 => ?_⟩
      obtain rfl := max_is h4 g4
      refine ⟨_, _, rfl, rfl, ?_⟩
      have e : bet (Ut10.most xs, Ut10.fewest xs) (Ut10.most ys, Ut10.fewest ys) = decide (((Ut10.most xs : Nat) : Int) < (Ut10.most ys : Nat)) := by
        rw [Bool.eq_iff_iff, bet_iff, decide_eq_true_eq]
        show _ < _ ∨ _ = _ ∧ _ < _ ↔ _
        omega
      rw [e] at k
      exact k
/-! ### best_deal -/
abbrev sBest : Stmt := top 4
def spBest : Sp := fun vs H Q _ => ∃ (aw : Addr) (ws : List Nat) (h : Nat), vs = [.ref aw, .int h] ∧ H aw = some (.lst (wv ws)) ∧ ws.length ≤ 6 ∧ 0 < h ∧ h ≤ 4 ∧
  ∀ (H' : Hp) (v : V), Same H H' → SentAt H' v (Ut10.deal ws h) → Q v H'
theorem scBest : FnScope ["weights", "hands", "deals", "best", "best_loads", "deal", "loads"] ["weights", "hands"] (defScope sBest) := ⟨rfl, rfl, rfl, by decide +kernel, rfl, by decide +kernel, by decide +kernel⟩
theorem ok_best {f : Addr} {fd : FuncData} (F : Fun K "best_deal" "best_deal" sBest f fd) (T : Txt mg) (D1 : Df P w K mg base "all_deals" 1 ["how_many", "hands"] spDeals) (D2 : Df P w K mg base "loads_of" 1 ["deal", "weights", "hands"] spLoads) (D3 : Df P w K mg base "is_better" 1 ["loads", "others"] spBet) :
    FnOk P w K mg base CX0 2 f fd ["weights", "hands"] spBest := by
  refine F.ok scBest (fun vs H Q E h => ?_) (fun cdv A outer s0 H vs Q E hr h => ?_)
  · obtain ⟨aw, ws, h, rfl, _⟩ := h
    rfl
  · obtain ⟨aw, ws, h, rfl, hw, lw, h0, h4, k⟩ := h
    refine ⟨_, pss_cons (ps_set (i := 2) scBest.nd rfl (Or.inl rfl) (pe_df D1 hr (pa_cons (pe_callB call_len_seq (by rfl) T.len PySem.boot_len (pa_cons (pv 0) pa_nil)) (pa_cons (pv 1) pa_nil))))
      (pss_cons (ps_set (i := 3) scBest.nd rfl (Or.inl rfl) (pe_ix ix_list (pv 2) pe_int (fun _ _ => rfl)))
      (pss_cons (ps_set (i := 4) scBest.nd rfl (Or.inl rfl) (pe_df D2 hr (pa_cons (pv 3) (pa_cons (pv 0) (pa_cons (pv 1) pa_nil)))))
      (pss_cons (ps_for PassesOwn.never rfl (pi_list (pv 2)) (pg_name (i := 5) scBest.nd rfl (Or.inl rfl))
        (pss_cons (ps_set (i := 6) scBest.nd rfl (Or.inl rfl) (pe_df D2 hr (pa_cons (pv 5) (pa_cons (pv 0) (pa_cons (pv 1) pa_nil)))))
        (pss_one (ps_if (pt_val (pe_df D3 hr (pa_cons (pv 6) (pa_cons (pv 4) pa_nil))))
          (pss_cons (ps_set (i := 3) scBest.nd rfl (Or.inl rfl) (pv 5)) (pss_one (ps_set (i := 4) scBest.nd rfl (Or.inl rfl) (pv 6)))) pss_nil))))
      (pss_one (ps_ret (pv 3)))))), ?_⟩
    obtain ⟨d0, rest, ed⟩ := deals_cons h0 ws.length
    have ew := deal_walk ed
    have dm : ∀ d ∈ Ut10.deals h ws.length, d.length = ws.length ∧ ∀ x ∈ d, x < h := fun d hd => mem_deals.mp hd
    refine ⟨_, rfl, aw, _, rfl, .inl (SqL.of hw), _, rfl, ws.length, h, (by rw [wv_len]; rfl), lw, h4, fun H1 p xs e1 np hp hs => ?_⟩
    have hd0 : (Ut10.deals h ws.length)[0]? = some d0 := by rw [ed]; rfl
    obtain ⟨v0, hv0, sv0⟩ := hs.at hd0
    have md0 := dm d0 (List.mem_of_getElem? hd0)
    refine ⟨_, rfl, p, _, _, _, rfl, rfl, SqL.of hp, atZ hv0 rfl, ?_⟩
    refine ⟨_, rfl, _, rfl, _, rfl, v0, aw, d0, ws, h, rfl, sv0, e1 _ _ hw, md0.1, md0.2, by omega, by omega, fun H2 bl e2 nbl hbl => ?_⟩
    refine ⟨_, rfl, p, rfl, ⟨_, SqL.of (e2 _ _ hp)⟩, for_list (K := K) (a := p) (xs := xs) (fun i σ H' => ∃ (vb : V) (bl : Addr) (x5 x6 : Option V), σ = [some (.ref aw), some (.int h), some (.ref p), some vb, some (.ref bl), x5, x6] ∧ Same H H' ∧ H' p = some (.lst xs) ∧ SentsAt H' xs (Ut10.deals h ws.length) ∧ SentAt H' vb (firstBest (keyOf ws h) ((Ut10.deals h ws.length).take i) d0) ∧ H' bl = some (.lst (wv (Ut10.loads ws h (firstBest (keyOf ws h) ((Ut10.deals h ws.length).take i) d0))))) ?_ ?_ ?_ ?_⟩
    · exact ⟨v0, bl, _, _, rfl, e1.trans e2, e2 _ _ hp, hs.same e2, sv0.same e2, hbl⟩
    · rintro i σ H' _ ⟨vb, bl, x5, x6, rfl, _, hp2, _⟩
      exact SqL.of hp2
    · rintro i x σ H' hi ⟨vb, bl, x5, x6, rfl, e3, hp2, hs2, svb, hbl2⟩
      obtain ⟨d, hd, sd⟩ := hs2.get i x hi
      have md := dm d (List.mem_of_getElem? hd)
      have more := first_more (keyOf ws h) d0 d ((Ut10.deals h ws.length).take i)
      rw [← take_more hd] at more
      refine ⟨_, rfl, _, rfl, _, rfl, x, aw, d, ws, h, rfl, sd, e3 _ _ hw, md.1, md.2, by omega, by omega, fun H4 l e4 nl hl => ?_⟩
      refine ⟨_, rfl, _, rfl, l, bl, _, _, rfl, hl, e4 _ _ hbl2, by rw [loads_len]; exact h0, by rw [loads_len]; exact h0, _, rfl, ?_⟩
      refine ite2 (fun c => ?_) (fun c => ?_)
      · have more := more.trans (if_pos c)
        refine ⟨_, rfl, _, rfl, x, l, _, _, rfl, e3.trans e4, e4 _ _ hp2, hs2.same e4, ?_, ?_⟩
        · rw [more]; exact sd.same e4
        · rw [more]; exact hl
      · have more := more.trans (if_neg c)
        refine ⟨vb, bl, _, _, rfl, e3.trans e4, e4 _ _ hp2, hs2.same e4, ?_, ?_⟩
        · rw [more]; exact svb.same e4
        · rw [more]; exact e4 _ _ hbl2
    · rintro σ H' ⟨vb, bl, x5, x6, rfl, e3, hp2, hs2, svb, hbl2⟩
      rw [hs2.len, List.take_length, ← ew] at svb
      exact ⟨_, rfl, k _ vb e3 svb⟩
end
end Wc

namespace Wc
open PySem PySem.Spec PyProof.Rows L2
open Ut10 (Sent File Band)
theorem nodup_cast (ns : List Nat) : (ns.map fun n : Nat => (n : Int)).Nodup ↔ ns.Nodup := by
  unfold List.Nodup
  rw [List.pairwise_map]
  constructor
  · exact fun h => h.imp fun z e => z (by rw [e])
  · exact fun h => h.imp fun z e => z (by omega)
theorem FilesAt.keys {H : Hp} {av : Addr} : ∀ {kvs : List (Key × V)} {fs : List File}, FilesAt H av kvs fs → kvs.map (·.1) = (fs.map fun f => (f.number : Int)).map Sum.inl
  | _, _, .nil => rfl
  | _, _, .cons _ t => by rw [List.map_cons, List.map_cons, List.map_cons, FilesAt.keys t]
theorem FilesAt.some {H : Hp} {av : Addr} {kvs : List (Key × V)} {s : Ut10.St} (h : FilesAt H av kvs s.files) (n : Nat) : (valV kvs (Sum.inl (n : Int))).isSome = (Ut10.fileOf s n).isSome := by
  cases e : Ut10.fileOf s n with
  | none => rw [h.no e]; rfl
  | some f =>
    obtain ⟨a, ea, _⟩ := h.yes e
    rw [ea]
    rfl
theorem FilesAt.at {H : Hp} {av : Addr} {kvs : List (Key × V)} {s : Ut10.St} (h : FilesAt H av kvs s.files) {n : Nat} (e : (Ut10.fileOf s n).isSome = true) : ∃ a xs, valV kvs (Sum.inl (n : Int)) = .some (.ref a) ∧ H a = .some (.lst xs) ∧ SentsAt H xs (sentsOf s n) := by
  obtain ⟨f, hf⟩ := Option.isSome_iff_exists.mp e
  obtain ⟨a, ea, _, xs, h1, h2⟩ := h.yes hf
  refine ⟨a, xs, ea, h1, ?_⟩
  unfold sentsOf
  rw [hf]
  exact h2
theorem sorted_nums {s : Ut10.St} (G : Good s) {ys : List Int} (hp : ys.Perm (s.files.map fun f => (f.number : Int))) (hs : ys.Pairwise (· ≤ ·)) : ys.map V.int = wv (nums s) := by
  have e : (s.files.map fun f => (f.number : Int)) = (nums s).map fun n : Nat => (n : Int) := by
    unfold nums
    rw [List.map_map]
    rfl
  have up : ((nums s).map fun n : Nat => (n : Int)).Pairwise (· ≤ ·) := by
    rw [List.pairwise_map]
    exact G.up.imp fun z => by omega
  rw [e] at hp
  rw [sorted_is hp hs up, wv_ints]
theorem jobS_take {s : Ut10.St} {ns : List Nat} {i n : Nat} (h : ns[i]? = some n) : jobS s (ns.take (i + 1)) = jobS s (ns.take i) ++ sentsOf s n := take_flat h
theorem jobS_few {s : Ut10.St} (G : Good s) {ns : List Nat} (h : ns.length ≤ 10) (i : Nat) : (jobS s (ns.take i)).length ≤ 80 := by
  have := jobS_len G (ns.take i)
  rw [List.length_take] at this
  omega
theorem jobS_all {s : Ut10.St} (G : Good s) {ns : List Nat} (h : ns.length ≤ 10) : (jobS s (chosen s ns)).length ≤ 80 := by
  have := jobS_few G (chosen_len G h) (chosen s ns).length
  rw [List.take_length] at this
  exact this
section
variable {P : Program} {w : World} {K : PySem.W.Frag} {mg : Str → Option Value} {base : Heap} {C : Addr}
/-! ### House.has_job -/
abbrev sHas : Stmt := inClass (top 39) 6
def spHas (K : PySem.W.Frag) (C : Addr) : Sp := fun vs H Q _ => ∃ (h d av a : Addr) (ns : List Nat) (s : Ut10.St), vs = [.ref h, .ref a] ∧ HouseAt K C H h d s av ∧ H a = some (.lst (wv ns)) ∧ ns.length ≤ 1000 ∧
  ∀ H', Same H H' → Q (.bl (hasJ s ns)) H'
theorem scHas : FnScope ["self", "numbers", "number"] ["self", "numbers"] (defScope sHas) := ⟨rfl, rfl, rfl, by decide +kernel, rfl, by decide +kernel, by decide +kernel⟩
theorem ok_has {f : Addr} {fd : FuncData} (F : Fun K "has_job" "House.has_job" sHas f fd) (T : Txt mg) (X : HTxt K mg C) : FnOk P w K mg base CX0 1 f fd ["self", "numbers"] (spHas K C) := by
  refine F.ok scHas (fun vs H Q E h => ?_) (fun cdv A outer s0 H vs Q E hr q => ?_)
  · obtain ⟨h, d, av, a, ns, s, rfl, _⟩ := h
    rfl
  · obtain ⟨h, d, av, a, ns, s, rfl, O, ha, ln, k⟩ := q
    have hu := hu_of hr
    refine ⟨_, pss_cons (ps_if (pt_cmpR op_ne (pe_lenSetN (by rfl) T.len (by rfl) T.set (pv 1)) (pe_callB call_len_seq (by rfl) T.len PySem.boot_len (pa_cons (pv 1) pa_nil)) (nomark _)) (pss_one (ps_ret pe_bl)) pss_nil)
      (pss_one (ps_ret (pe_callB (cr_all rfl) (by rfl) T.all (by decide +kernel) (pa_cons
        (pe_lc (own := [("number", 2)]) (g := gName 2) (tt := tYes) (te := tDIn (tVar 2) (tFld K (tVar 0) "files")) rfl scHas.nd (pi_list (pv 1)) (blkOk_by (N := ["self", "numbers", "number"]) (sc := defScope sHas) (by decide +kernel))
          (fun _ _ _ _ _ => pg_name (i := 2) scHas.nd rfl (Or.inl rfl)) (fun _ _ _ _ _ => pts_nil) (fun _ _ _ _ _ => pe_cmp (pc_din hu (pv 2) (pe_fld (pv 0) rfl)))) pa_nil)))), ?_⟩
    have sa : SqL K H a ((ns.map fun n : Nat => (n : Int)).map V.int) := by rw [← wv_ints]; exact SqL.of ha
    refine ⟨_, rfl, a, _, rfl, sa, by rw [List.length_map]; omega, fun n hn hiff => ?_⟩
    rw [List.length_map, nodup_cast] at hiff
    refine ⟨_, rfl, a, _, rfl, .inl (SqL.of ha), rfl, _, rfl, ?_⟩
    rw [wv_len]
    by_cases c : ns.Nodup
    · rw [decide_eq_true (by rw [hiff.mpr c])]
      refine iteF ?_
      obtain ⟨⟨dx, m, b, h1, h2, h3⟩, ⟨kvs, h4, h5⟩⟩ := id O
      refine ⟨_, rfl, a, rfl, ⟨_, SqL.of ha⟩, fun D nD => lc_list (K := K) (a := a) (xs := wv ns) (fun i H' => H' = upd H D (.lst ((ns.take i).map fun n => V.bl (Ut10.fileOf s n).isSome))) ?_ ?_ ?_ ?_⟩
      · rfl
      · rintro i H' _ rfl
        exact SqL.of (same_new nD _ _ ha)
      · rintro i x H' hi rfl
        have hl : i < ns.length := by have := (List.getElem?_eq_some_iff.mp hi).1; rw [wv_len] at this; exact this
        obtain ⟨n, hni⟩ : ∃ n, ns[i]? = some n := ⟨ns[i], List.getElem?_eq_getElem hl⟩
        rw [wv_get hni] at hi
        cases hi
        refine ⟨rfl, _, rfl, _, rfl, h, C, dx, _, _, rfl, same_new nD _ _ h1, X.cl, X.nF, hF_files, d, _, rfl, DGet.k (k := Sum.inl (n : Int)) (same_new nD _ _ h4), _, upd_same, ?_, ?_⟩
        · rw [List.length_map, List.length_take]; exact small_line (by omega)
        · rw [upd_upd, take_more hni, List.map_append, h5.some]; rfl
      · rintro H' rfl
        rw [wv_len, List.take_length]
        refine ⟨D, ns.map fun n => (Ut10.fileOf s n).isSome, rfl, ?_, ?_⟩
        · rw [List.map_map]; exact SqL.of upd_same
        · have e : hasJ s ns = (ns.map fun n => (Ut10.fileOf s n).isSome).all id := by
            unfold hasJ
            rw [decide_eq_true c, Bool.true_and, List.all_map]; rfl
          rw [← e]
          exact k _ (same_new nD)
    · rw [decide_eq_false (fun z => c (hiff.mp (by have := V.int.inj z; omega)))]
      refine iteT ?_
      have e : hasJ s ns = false := by
        unfold hasJ
        rw [decide_eq_false c, Bool.false_and]
      have k := k H (Same.refl H)
      rw [e] at k
      exact k
/-! ### House.job_of -/
abbrev sJob : Stmt := inClass (top 39) 7
def spJob (K : PySem.W.Frag) (C : Addr) : Sp := fun vs H Q _ => ∃ (h d av a : Addr) (ns : List Nat) (s : Ut10.St), vs = [.ref h, .ref a] ∧ HouseAt K C H h d s av ∧ Good s ∧ H a = some (.lst (wv ns)) ∧ ns.length ≤ 10 ∧ (∀ n ∈ chosen s ns, (Ut10.fileOf s n).isSome = true) ∧
  ∀ (H' : Hp) (p : Addr) (xs : List V), Same H H' → H p = none → H' p = some (.lst xs) → SentsAt H' xs (jobS s (chosen s ns)) → Q (.ref p) H'
theorem scJob : FnScope ["self", "numbers", "chosen", "sentences", "number"] ["self", "numbers"] (defScope sJob) := ⟨rfl, rfl, rfl, by decide +kernel, rfl, by decide +kernel, by decide +kernel⟩
theorem ok_job {f : Addr} {fd : FuncData} (F : Fun K "job_of" "House.job_of" sJob f fd) (T : Txt mg) (X : HTxt K mg C) : FnOk P w K mg base CX0 1 f fd ["self", "numbers"] (spJob K C) := by
  refine F.ok scJob (fun vs H Q E h => ?_) (fun cdv A outer s0 H vs Q E hr q => ?_)
  · obtain ⟨h, d, av, a, ns, s, rfl, _⟩ := h
    rfl
  · obtain ⟨h, d, av, a, ns, s, rfl, O, G, ha, ln, hin, k⟩ := q
    have hu := hu_of hr
    refine ⟨_, pss_cons (ps_set (i := 2) scJob.nd rfl (Or.inl rfl) (pe_ifExp (pt_cmpR op_gt (pe_callB call_len_seq (by rfl) T.len PySem.boot_len (pa_cons (pv 1) pa_nil)) pe_int (nomark _)) (pv 1) (pe_callB (call_sortedDI rfl) (by rfl) T.sorted (by decide +kernel) (pa_cons (pe_fld (pv 0) rfl) pa_nil))))
      (pss_cons (ps_set (i := 3) scJob.nd rfl (Or.inl rfl) (pe_lst pa_nil))
      (pss_cons (ps_for PassesOwn.never rfl (pi_list (pv 2)) (pg_name (i := 4) scJob.nd rfl (Or.inl rfl))
        (pss_one (ps_expr (pe_bm PySem.F.plainAttrs_list PySem.F.slot_list_extend PySem.F.type_list_extend mt_extend (pv 3) (pa_cons (pe_dget hu (pe_fld (pv 0) rfl) (pv 4) (fun _ _ => rfl)) pa_nil)))))
      (pss_one (ps_ret (pv 3))))), ?_⟩
    have lch := chosen_len G ln
    refine ⟨_, rfl, a, _, rfl, .inl (SqL.of ha), _, _, rfl, rfl, _, rfl, ?_⟩
    rw [wv_len]
    by_cases c : ns = []
    · rw [decide_eq_false (by rw [c]; decide)]
      refine iteF ?_
      obtain ⟨⟨dx, m, b, h1, h2, h3⟩, ⟨kvs, h4, h5⟩⟩ := id O
      refine ⟨_, rfl, h, C, dx, _, _, rfl, h1, X.cl, X.nF, hF_files, d, kvs, _, rfl, .inl h4, h5.keys, ?_, fun ys ch perm srt nch => ?_⟩
      · rw [List.length_map]; have := G.few; omega
      rw [sorted_nums G perm srt]
      have ech : nums s = chosen s ns := by unfold chosen; rw [if_pos c]
      rw [ech]
      have e1 : Same H (upd H ch (.lst (wv (chosen s ns)))) := same_new nch
      have hch : upd H ch (.lst (wv (chosen s ns))) ch = some (.lst (wv (chosen s ns))) := upd_same
      generalize upd H ch (.lst (wv (chosen s ns))) = H1 at e1 hch ⊢
      refine ⟨Nat.zero_le _, fun p np => ?_⟩
      have e2 := e1.trans (same_new (o := HO.lst []) np)
      have np0 : H p = none := e1.free np
      have ncp : ch ≠ p := ne_of_none hch np
      refine ⟨_, rfl, ch, rfl, ⟨_, SqL.of (same_new np _ _ hch)⟩, for_list (K := K) (a := ch) (xs := wv (chosen s ns)) (fun i σ H' => ∃ (x4 : Option V) (ys : List V), σ = [some (.ref h), some (.ref a), some (.ref ch), some (.ref p), x4] ∧ Same H H' ∧ H' ch = some (.lst (wv (chosen s ns))) ∧ H' p = some (.lst ys) ∧ SentsAt H' ys (jobS s ((chosen s ns).take i))) ?_ ?_ ?_ ?_⟩
      · exact ⟨_, [], rfl, e2, same_new np _ _ hch, upd_same, SentsAt.nil⟩
      · rintro i σ H' _ ⟨x4, ys, rfl, _, z, _⟩
        exact SqL.of z
      · rintro i x σ H' hi ⟨x4, ys, rfl, e3, hch3, hp3, hy3⟩
        have hl : i < (chosen s ns).length := by have := (List.getElem?_eq_some_iff.mp hi).1; rw [wv_len] at this; exact this
        obtain ⟨n, hni⟩ : ∃ n, (chosen s ns)[i]? = some n := ⟨(chosen s ns)[i], List.getElem?_eq_getElem hl⟩
        rw [wv_get hni] at hi
        cases hi
        obtain ⟨⟨dx, m, b, h1, h2, h3⟩, ⟨kvs, h4, h5⟩⟩ := O.same e3
        obtain ⟨af, xf, ea, haf, hsf⟩ := h5.at (hin n (List.mem_of_getElem? hni))
        have dg := DGet.k (k := Sum.inl (n : Int)) h4
        rw [ea] at dg
        have low := (Low.refl H').upd_av (o := HO.lst (ys ++ xf)) hp3
        refine ⟨_, rfl, .inl ⟨rfl, _, SqL.of hp3⟩, _, rfl, h, C, dx, _, _, rfl, h1, X.cl, X.nF, hF_files, _, rfl, d, .ref af, rfl, dg, p, af, ys, xf, rfl, rfl, hp3, haf, ?_, ?_⟩
        · have l1 := hy3.len
          have l2 := hsf.len
          have l3 := jobS_few G lch i
          have l4 := sentsOf_len G n
          exact Nat.le_of_lt (small_line (by omega))
        · refine ⟨_, ys ++ xf, rfl, same_upd e3 np0, by rw [upd_ne ncp]; exact hch3, upd_same, ?_⟩
          rw [jobS_take hni]
          exact (hy3.append hsf).low low
      · rintro σ H' ⟨x4, ys, rfl, e3, hch3, hp3, hy3⟩
        rw [wv_len, List.take_length] at hy3
        exact ⟨_, rfl, k _ p ys e3 np0 hp3 hy3⟩
    · have cl : 0 < ns.length := List.length_pos_iff.mpr c
      rw [decide_eq_true (by omega : (0 : Int) < ns.length)]
      refine iteT ⟨_, rfl, ?_⟩
      have ech : ns = chosen s ns := by unfold chosen; rw [if_neg c]
      have e1 : Same H H := Same.refl H
      have hch : H a = some (.lst (wv (chosen s ns))) := by rw [← ech]; exact ha
      refine ⟨Nat.zero_le _, fun p np => ?_⟩
      have e2 := e1.trans (same_new (o := HO.lst []) np)
      have np0 : H p = none := e1.free np
      have ncp : a ≠ p := ne_of_none hch np
      refine ⟨_, rfl, a, rfl, ⟨_, SqL.of (same_new np _ _ hch)⟩, for_list (K := K) (a := a) (xs := wv (chosen s ns)) (fun i σ H' => ∃ (x4 : Option V) (ys : List V), σ = [some (.ref h), some (.ref a), some (.ref a), some (.ref p), x4] ∧ Same H H' ∧ H' a = some (.lst (wv (chosen s ns))) ∧ H' p = some (.lst ys) ∧ SentsAt H' ys (jobS s ((chosen s ns).take i))) ?_ ?_ ?_ ?_⟩
      · exact ⟨_, [], rfl, e2, same_new np _ _ hch, upd_same, SentsAt.nil⟩
      · rintro i σ H' _ ⟨x4, ys, rfl, _, z, _⟩
        exact SqL.of z
      · rintro i x σ H' hi ⟨x4, ys, rfl, e3, hch3, hp3, hy3⟩
        have hl : i < (chosen s ns).length := by have := (List.getElem?_eq_some_iff.mp hi).1; rw [wv_len] at this; exact this
        obtain ⟨n, hni⟩ : ∃ n, (chosen s ns)[i]? = some n := ⟨(chosen s ns)[i], List.getElem?_eq_getElem hl⟩
        rw [wv_get hni] at hi
        cases hi
        obtain ⟨⟨dx, m, b, h1, h2, h3⟩, ⟨kvs, h4, h5⟩⟩ := O.same e3
        obtain ⟨af, xf, ea, haf, hsf⟩ := h5.at (hin n (List.mem_of_getElem? hni))
        have dg := DGet.k (k := Sum.inl (n : Int)) h4
        rw [ea] at dg
        have low := (Low.refl H').upd_av (o := HO.lst (ys ++ xf)) hp3
        refine ⟨_, rfl, .inl ⟨rfl, _, SqL.of hp3⟩, _, rfl, h, C, dx, _, _, rfl, h1, X.cl, X.nF, hF_files, _, rfl, d, .ref af, rfl, dg, p, af, ys, xf, rfl, rfl, hp3, haf, ?_, ?_⟩
        · have l1 := hy3.len
          have l2 := hsf.len
          have l3 := jobS_few G lch i
          have l4 := sentsOf_len G n
          exact Nat.le_of_lt (small_line (by omega))
        · refine ⟨_, ys ++ xf, rfl, same_upd e3 np0, by rw [upd_ne ncp]; exact hch3, upd_same, ?_⟩
          rw [jobS_take hni]
          exact (hy3.append hsf).low low
      · rintro σ H' ⟨x4, ys, rfl, e3, hch3, hp3, hy3⟩
        rw [wv_len, List.take_length] at hy3
        exact ⟨_, rfl, k _ p ys e3 np0 hp3 hy3⟩
/-! ### House.count_by_kind -/
abbrev sCbk : Stmt := inClass (top 39) 8
def spCbk (K : PySem.W.Frag) (C : Addr) : Sp := fun vs H Q _ => ∃ (h d av a : Addr) (xs : List V) (ss : List Sent) (s : Ut10.St), vs = [.ref h, .ref a] ∧ HouseAt K C H h d s av ∧ Good s ∧ H a = some (.lst xs) ∧ SentsAt H xs ss ∧ ss.length ≤ 500 ∧ (∀ x ∈ ss, Ut10.sentOk x = true) ∧
  ∀ (H' : Hp) (p : Addr), Same H H' → H p = none → H' p = some (.lst (wv (cntRow s ss))) → Q (.ref p) H'
theorem scCbk : FnScope ["self", "sentences"] ["self", "sentences"] (defScope sCbk) := ⟨rfl, rfl, rfl, by decide +kernel, rfl, by decide +kernel, by decide +kernel⟩
theorem ok_cbk {f : Addr} {fd : FuncData} (F : Fun K "count_by_kind" "House.count_by_kind" sCbk f fd) (X : HTxt K mg C) (D1 : Df P w K mg base "words_by_kind" 8 ["sentences", "memory", "bands"] (spWbk K)) : FnOk P w K mg base CX0 9 f fd ["self", "sentences"] (spCbk K C) := by
  refine F.ok scCbk (fun vs H Q E h => ?_) (fun cdv A outer s0 H vs Q E hr q => ?_)
  · obtain ⟨h, d, av, a, xs, ss, s, rfl, _⟩ := h
    rfl
  · obtain ⟨h, d, av, a, xs, ss, s, rfl, O, G, ha, hs, ln, oks, k⟩ := q
    refine ⟨_, pss_one (ps_ret (pe_df D1 hr (pa_cons (pv 1) (pa_cons (pe_fld (pv 0) rfl) (pa_cons (pe_fld (pv 0) rfl) pa_nil))))), ?_⟩
    obtain ⟨⟨dx, m, b, h1, ⟨_, xm, hm, hsm⟩, ⟨_, xb, hb, hsb⟩⟩, _⟩ := id O
    exact ⟨_, rfl, _, rfl, h, C, dx, _, _, rfl, h1, X.cl, X.nM, hF_mem, _, rfl, h, C, dx, _, _, rfl, h1, X.cl, X.nB, hF_bands, a, m, b, xs, ss, s, rfl, ha, hs, ⟨⟨xm, hm, hsm⟩, ⟨xb, hb, hsb⟩⟩, G, ln, oks, k⟩
/-! ### House.weigh -/
abbrev sWgh : Stmt := inClass (top 39) 9
def spWgh (K : PySem.W.Frag) (C : Addr) : Sp := fun vs H Q _ => ∃ (h d av a : Addr) (xs : List V) (ss : List Sent) (s : Ut10.St), vs = [.ref h, .ref a] ∧ HouseAt K C H h d s av ∧ Good s ∧ H a = some (.lst xs) ∧ SentsAt H xs ss ∧ ss.length ≤ 500 ∧ (∀ x ∈ ss, Ut10.sentOk x = true) ∧
  ∀ (H' : Hp), Same H H' → Q (.int (wOf s ss : Nat)) H'
theorem scWgh : FnScope ["self", "sentences"] ["self", "sentences"] (defScope sWgh) := ⟨rfl, rfl, rfl, by decide +kernel, rfl, by decide +kernel, by decide +kernel⟩
theorem ok_wgh {f fc : Addr} {fd fdc : FuncData} (F : Fun K "weigh" "House.weigh" sWgh f fd) (X : HTxt K mg C) (mc : Meth K C "count_by_kind" fc) (bc : Binds K fdc ["self", "sentences"] []) (GC : FnOk P w K mg base CX0 9 fc fdc ["self", "sentences"] (spCbk K C))
    (D1 : Df P w K mg base "weight_of" 1 ["counted", "again", "bands"] (spWt K)) : FnOk P w K mg base CX0 10 f fd ["self", "sentences"] (spWgh K C) := by
  refine F.ok scWgh (fun vs H Q E h => ?_) (fun cdv A outer s0 H vs Q E hr q => ?_)
  · obtain ⟨h, d, av, a, xs, ss, s, rfl, _⟩ := h
    rfl
  · obtain ⟨h, d, av, a, xs, ss, s, rfl, O, G, ha, hs, ln, oks, k⟩ := q
    refine ⟨_, pss_one (ps_ret (pe_df D1 (hr.mono (by decide)) (pa_cons (pe_meth (pv 0) X.cl mc GC hr bc .nil pass0 (pa_cons (pv 1) pa_nil)) (pa_cons (pe_fld (pv 0) rfl) (pa_cons (pe_fld (pv 0) rfl) pa_nil))))), ?_⟩
    obtain ⟨⟨dx, m, b, h1, _⟩, _⟩ := id O
    refine ⟨_, rfl, h, dx, _, rfl, h1, hF_no (by decide +kernel), _, rfl, h, d, av, a, xs, ss, s, rfl, O, G, ha, hs, ln, oks, fun H1 p e1 np hp => ?_⟩
    obtain ⟨⟨dx1, m1, b1, g1, _, ⟨_, xb, hb, hsb⟩⟩, _⟩ := O.same e1
    exact ⟨_, rfl, h, C, dx1, _, _, rfl, g1, X.cl, X.nA, hF_again, _, rfl, h, C, dx1, _, _, rfl, g1, X.cl, X.nB, hF_bands, p, b1, xb, ss, s, rfl, hp, hb, hsb, G, fun H2 e2 => k _ (e1.trans e2)⟩
end
end Wc

namespace Wc
open PySem PySem.Spec PyProof.Rows L2
open Ut10 (Sent File Band)
theorem ints_wv (l : List Nat) : (Ut10.ints l).map V.int = wv l := by
  unfold Ut10.ints wv
  rw [List.map_map]
  rfl
theorem cntRow_few {s : Ut10.St} (G : Good s) (ss : List Sent) : (cntRow s ss).length ≤ 6 := by
  rw [cntRow_len]
  have := G.bands.1
  omega
theorem showRow_take {s : Ut10.St} {ns : List Nat} {i n : Nat} (h : ns[i]? = some n) : showRow s (ns.take (i + 1)) = showRow s (ns.take i) ++ [n, (sentsOf s n).length] := take_flat h
theorem showRow_len (s : Ut10.St) : ∀ ns : List Nat, (showRow s ns).length = 2 * ns.length
  | [] => rfl
  | n :: ns => by
    have ih := showRow_len s ns
    unfold showRow at ih ⊢
    rw [List.flatMap_cons, List.length_append, ih, List.length_cons]
    simp
    omega
theorem nums_len (s : Ut10.St) : (nums s).length = s.files.length := List.length_map ..
section
variable {P : Program} {w : World} {K : PySem.W.Frag} {mg : Str → Option Value} {base : Heap} {C : Addr}
theorem Done.keep {H H' : Hp} {h d av p : Addr} {s : Ut10.St} {l : List Int} {Q : VK} (x : HouseAt K C H h d s av) (k : Done K C H h d av (s, l) Q) (e : Same H H') (np : H p = none) (hp : H' p = some (.lst (l.map V.int))) : Q (.ref p) H' :=
  k _ p (x.same e) (fun b o q _ _ => e b o q) np hp
/-! ### House.count_job -/
abbrev sCount : Stmt := inClass (top 39) 10
def spCount (K : PySem.W.Frag) (C : Addr) : Sp := fun vs H Q _ => ∃ (h d av a : Addr) (ns : List Nat) (s : Ut10.St), vs = [.ref h, .ref a] ∧ HouseAt K C H h d s av ∧ Good s ∧ H a = some (.lst (wv ns)) ∧ ns.length ≤ 10 ∧ Done K C H h d av (Ut10.step s (.count ns)) Q
theorem scCount : FnScope ["self", "numbers", "counted"] ["self", "numbers"] (defScope sCount) := ⟨rfl, rfl, rfl, by decide +kernel, rfl, by decide +kernel, by decide +kernel⟩
theorem ok_count {f fh fj fc : Addr} {fd fdh fdj fdc : FuncData} (F : Fun K "count_job" "House.count_job" sCount f fd) (T : Txt mg) (X : HTxt K mg C)
    (mh : Meth K C "has_job" fh) (bh : Binds K fdh ["self", "numbers"] []) (GH : FnOk P w K mg base CX0 1 fh fdh ["self", "numbers"] (spHas K C))
    (mj : Meth K C "job_of" fj) (bj : Binds K fdj ["self", "numbers"] []) (GJ : FnOk P w K mg base CX0 1 fj fdj ["self", "numbers"] (spJob K C))
    (mc : Meth K C "count_by_kind" fc) (bc : Binds K fdc ["self", "sentences"] []) (GC : FnOk P w K mg base CX0 9 fc fdc ["self", "sentences"] (spCbk K C))
    (D1 : Df P w K mg base "weight_of" 1 ["counted", "again", "bands"] (spWt K)) : FnOk P w K mg base CX0 10 f fd ["self", "numbers"] (spCount K C) := by
  refine F.ok scCount (fun vs H Q E h => ?_) (fun cdv A outer s0 H vs Q E hr q => ?_)
  · obtain ⟨h, d, av, a, ns, s, rfl, _⟩ := h
    rfl
  · obtain ⟨h, d, av, a, ns, s, rfl, O, G, ha, ln, k⟩ := q
    have hr1 := hr.mono (by decide : 1 ≤ 9)
    refine ⟨_, pss_cons (ps_if (pt_not (pt_val (pe_meth (pv 0) X.cl mh GH hr1 bh .nil pass0 (pa_cons (pv 1) pa_nil)))) (pss_one (ps_ret (pe_lst (pa_cons (pe_cst T.cNo) pa_nil)))) pss_nil)
      (pss_cons (ps_set (i := 2) scCount.nd rfl (Or.inl rfl) (pe_meth (pv 0) X.cl mc GC hr bc .nil pass0 (pa_cons (pe_meth (pv 0) X.cl mj GJ hr1 bj .nil pass0 (pa_cons (pv 1) pa_nil)) pa_nil)))
      (pss_one (ps_ret (pe_op op_cat (pe_lst (pa_cons (pe_df D1 hr1 (pa_cons (pv 2) (pa_cons (pe_fld (pv 0) rfl) (pa_cons (pe_fld (pv 0) rfl) pa_nil)))) pa_nil)) (pv 2))))), ?_⟩
    obtain ⟨⟨dx, m, b, h1, _⟩, _⟩ := id O
    refine ⟨_, rfl, h, dx, _, rfl, h1, hF_no (by decide +kernel), _, rfl, h, d, av, a, ns, s, rfl, O, ha, by omega, fun H1 e1 => ⟨_, rfl, ?_⟩⟩
    cases hJ : hasJ s ns with
    | false =>
      rw [count_no hJ] at k
      exact iteT ⟨one_line, fun p np => k.refuse O e1 np⟩
    | true =>
      rw [count_yes G hJ] at k
      refine iteF ?_
      have O1 := O.same e1
      refine ⟨_, rfl, h, dx, _, rfl, e1 _ _ h1, hF_no (by decide +kernel), _, rfl, h, dx, _, rfl, e1 _ _ h1, hF_no (by decide +kernel), _, rfl, h, d, av, a, ns, s, rfl, O1, G, e1 _ _ ha, ln, has_mem hJ, fun H2 p2 xs e2 np2 hp2 hs2 => ?_⟩
      have ljs := jobS_all G ln
      refine ⟨h, d, av, p2, xs, _, s, rfl, O1.same e2, G, hp2, hs2, by omega, jobS_ok G _, fun H3 p3 e3 np3 hp3 => ?_⟩
      have e13 := (e1.trans e2).trans e3
      obtain ⟨⟨dx3, m3, b3, g3, _, ⟨_, xb, hb, hsb⟩⟩, _⟩ := O.same e13
      refine ⟨_, rfl, _, rfl, h, C, dx3, _, _, rfl, g3, X.cl, X.nA, hF_again, _, rfl, h, C, dx3, _, _, rfl, g3, X.cl, X.nB, hF_bands, p3, b3, xb, _, s, rfl, hp3, hb, hsb, G, fun H4 e4 => ?_⟩
      refine ⟨one_line, fun l nl => ⟨_, rfl, l, p3, _, _, rfl, rfl, upd_same, same_new nl _ _ (e4 _ _ hp3), ?_, fun q nq => ?_⟩⟩
      · have := cntRow_few G (jobS s (chosen s ns))
        rw [wv_len]
        exact Nat.le_of_lt (small_line (by simp; omega))
      · refine k.keep O ((e13.trans e4).trans ((same_new nl).trans (same_new nq))) (e13.free (e4.free (Same.free (same_new nl) nq))) ?_
        rw [upd_same, ints_wv]
        rfl
/-! ### House.tell_kinds -/
abbrev sTell : Stmt := inClass (top 39) 11
def spTell (K : PySem.W.Frag) (C : Addr) : Sp := fun vs H Q _ => ∃ (h d av a : Addr) (ns : List Nat) (s : Ut10.St), vs = [.ref h, .ref a] ∧ HouseAt K C H h d s av ∧ Good s ∧ H a = some (.lst (wv ns)) ∧ ns.length ≤ 10 ∧ Done K C H h d av (Ut10.step s (.kinds ns)) Q
theorem scTell : FnScope ["self", "numbers", "kinds"] ["self", "numbers"] (defScope sTell) := ⟨rfl, rfl, rfl, by decide +kernel, rfl, by decide +kernel, by decide +kernel⟩
theorem ok_tell {f fh fj : Addr} {fd fdh fdj : FuncData} (F : Fun K "tell_kinds" "House.tell_kinds" sTell f fd) (T : Txt mg) (X : HTxt K mg C)
    (mh : Meth K C "has_job" fh) (bh : Binds K fdh ["self", "numbers"] []) (GH : FnOk P w K mg base CX0 1 fh fdh ["self", "numbers"] (spHas K C))
    (mj : Meth K C "job_of" fj) (bj : Binds K fdj ["self", "numbers"] []) (GJ : FnOk P w K mg base CX0 1 fj fdj ["self", "numbers"] (spJob K C))
    (D1 : Df P w K mg base "kinds_of" 7 ["sentences", "memory", "bands"] (spKinds K)) : FnOk P w K mg base CX0 10 f fd ["self", "numbers"] (spTell K C) := by
  refine F.ok scTell (fun vs H Q E h => ?_) (fun cdv A outer s0 H vs Q E hr q => ?_)
  · obtain ⟨h, d, av, a, ns, s, rfl, _⟩ := h
    rfl
  · obtain ⟨h, d, av, a, ns, s, rfl, O, G, ha, ln, k⟩ := q
    have hr1 := hr.mono (by decide : 1 ≤ 9)
    refine ⟨_, pss_cons (ps_if (pt_not (pt_val (pe_meth (pv 0) X.cl mh GH hr1 bh .nil pass0 (pa_cons (pv 1) pa_nil)))) (pss_one (ps_ret (pe_lst (pa_cons (pe_cst T.cNo) pa_nil)))) pss_nil)
      (pss_cons (ps_set (i := 2) scTell.nd rfl (Or.inl rfl) (pe_df D1 (hr.mono (by decide)) (pa_cons (pe_meth (pv 0) X.cl mj GJ hr1 bj .nil pass0 (pa_cons (pv 1) pa_nil)) (pa_cons (pe_fld (pv 0) rfl) (pa_cons (pe_fld (pv 0) rfl) pa_nil)))))
      (pss_one (ps_ret (pe_op op_cat (pe_lst (pa_cons (pe_callB call_len_seq (by rfl) T.len PySem.boot_len (pa_cons (pv 2) pa_nil)) pa_nil)) (pv 2))))), ?_⟩
    obtain ⟨⟨dx, m, b, h1, _⟩, _⟩ := id O
    refine ⟨_, rfl, h, dx, _, rfl, h1, hF_no (by decide +kernel), _, rfl, h, d, av, a, ns, s, rfl, O, ha, by omega, fun H1 e1 => ⟨_, rfl, ?_⟩⟩
    cases hJ : hasJ s ns with
    | false =>
      rw [kinds_no hJ] at k
      exact iteT ⟨one_line, fun p np => k.refuse O e1 np⟩
    | true =>
      rw [kinds_yes G hJ] at k
      refine iteF ?_
      have O1 := O.same e1
      refine ⟨_, rfl, h, dx, _, rfl, e1 _ _ h1, hF_no (by decide +kernel), _, rfl, h, d, av, a, ns, s, rfl, O1, G, e1 _ _ ha, ln, has_mem hJ, fun H2 p2 xs e2 np2 hp2 hs2 => ?_⟩
      have ljs := jobS_all G ln
      have e12 := e1.trans e2
      obtain ⟨⟨dx3, m3, b3, g3, ⟨_, xm, hm, hsm⟩, ⟨_, xb, hb, hsb⟩⟩, _⟩ := O.same e12
      refine ⟨_, rfl, h, C, dx3, _, _, rfl, g3, X.cl, X.nM, hF_mem, _, rfl, h, C, dx3, _, _, rfl, g3, X.cl, X.nB, hF_bands, p2, m3, b3, xs, _, s, rfl, hp2, hs2, ⟨⟨xm, hm, hsm⟩, ⟨xb, hb, hsb⟩⟩, G, by omega, jobS_ok G _, fun H3 p3 e3 np3 hp3 => ?_⟩
      have e13 := e12.trans e3
      refine ⟨_, rfl, p3, _, rfl, .inl (SqL.of hp3), one_line, fun l nl => ⟨_, rfl, l, p3, _, _, rfl, rfl, upd_same, same_new nl _ _ hp3, ?_, fun q nq => ?_⟩⟩
      · rw [wv_len, kRow_len]
        exact Nat.le_of_lt (small_line (by simp; omega))
      · refine k.keep O (e13.trans ((same_new nl).trans (same_new nq))) (e13.free (Same.free (same_new nl) nq)) ?_
        rw [upd_same, ints_wv, wv_len]
        rfl
/-! ### House.part_files -/
abbrev sPart : Stmt := inClass (top 39) 12
def spPart (K : PySem.W.Frag) (C : Addr) : Sp := fun vs H Q _ => ∃ (h d av : Addr) (n : Nat) (s : Ut10.St), vs = [.ref h, .int n] ∧ HouseAt K C H h d s av ∧ Good s ∧ Done K C H h d av (Ut10.step s (.part n)) Q
theorem scPart : FnScope ["self", "hands", "weights", "deal", "loads", "number"] ["self", "hands"] (defScope sPart) := ⟨rfl, rfl, rfl, by decide +kernel, rfl, by decide +kernel, by decide +kernel⟩
theorem ok_part {f fw : Addr} {fd fdw : FuncData} (F : Fun K "part_files" "House.part_files" sPart f fd) (T : Txt mg) (X : HTxt K mg C)
    (mw : Meth K C "weigh" fw) (bw : Binds K fdw ["self", "sentences"] []) (GW : FnOk P w K mg base CX0 10 fw fdw ["self", "sentences"] (spWgh K C))
    (D1 : Df P w K mg base "best_deal" 2 ["weights", "hands"] spBest) (D2 : Df P w K mg base "loads_of" 1 ["deal", "weights", "hands"] spLoads) : FnOk P w K mg base CX0 12 f fd ["self", "hands"] (spPart K C) := by
  refine F.ok scPart (fun vs H Q E h => ?_) (fun cdv A outer s0 H vs Q E hr q => ?_)
  · obtain ⟨h, d, av, n, s, rfl, _⟩ := h
    rfl
  · obtain ⟨h, d, av, n, s, rfl, O, G, k⟩ := q
    have hu := hu_of hr
    refine ⟨_, pss_cons (ps_if (PW.pt (pw_or (pt_cmpR op_lt (pv 1) pe_int (nomark _)) (pw_or1 (pt_cmpR op_gt (pv 1) (pe_cst T.cHands) (nomark _))))) (pss_one (ps_ret (pe_lst (pa_cons (pe_cst T.cWrong) pa_nil)))) pss_nil)
      (pss_cons (ps_setLc (i := 2) (own := [("number", 5)]) (g := gName 5) (tt := tYes) (te := tMeth C "weigh" (spWgh K C) [] E0 (tVar 0) (tCons (tDGet (tFld K (tVar 0) "files") (tVar 5)) tNil)) rfl scPart.nd rfl rfl (sw_true rfl rfl rfl (by decide +kernel))
        (pi_list (pe_callB (call_sortedDI rfl) (by rfl) T.sorted (by decide +kernel) (pa_cons (pe_fld (pv 0) rfl) pa_nil))) (blkOk_by (N := ["self", "hands", "weights", "deal", "loads", "number"]) (sc := defScope sPart) (by decide +kernel))
        (fun _ _ _ _ _ => pg_name (i := 5) scPart.nd rfl (Or.inl rfl)) (fun _ _ _ _ _ => pts_nil)
        (fun _ _ _ _ _ => pe_meth (pv 0) X.cl mw GW (hr.mono (by decide)) bw .nil pass0 (pa_cons (pe_dget hu (pe_fld (pv 0) rfl) (pv 5) (fun _ _ => rfl)) pa_nil)))
      (pss_cons (ps_set (i := 3) scPart.nd rfl (Or.inl rfl) (pe_df D1 (hr.mono (by decide)) (pa_cons (pv 2) (pa_cons (pv 1) pa_nil))))
      (pss_cons (ps_set (i := 4) scPart.nd rfl (Or.inl rfl) (pe_df D2 (hr.mono (by decide)) (pa_cons (pv 3) (pa_cons (pv 2) (pa_cons (pv 1) pa_nil)))))
      (pss_one (ps_ret (pe_op op_cat (pe_lst (pa_cons (pe_callB (cr_max rfl) (by rfl) T.max (by decide +kernel) (pa_cons (pv 4) pa_nil)) (pa_cons (pe_callB (cr_min rfl) (by rfl) T.min (by decide +kernel) (pa_cons (pv 4) pa_nil)) pa_nil)))
        (pe_callTy call_list_of (by rfl) T.list (by decide +kernel) (pa_cons (pv 3) pa_nil)))))))), ?_⟩
    refine ⟨_, rfl, _, _, rfl, rfl, _, rfl, ?_⟩
    by_cases c1 : n = 0
    · rw [part_no (.inl c1)] at k
      rw [decide_eq_true (by omega : (n : Int) < 1)]
      exact iteT (iteT ⟨one_line, fun p np => k.refuse O (Same.refl H) np⟩)
    rw [decide_eq_false (by omega : ¬ (n : Int) < 1)]
    refine iteF ⟨_, rfl, _, _, rfl, rfl, _, rfl, ?_⟩
    by_cases c2 : 4 < n
    · rw [part_no (.inr c2)] at k
      rw [decide_eq_true (by omega : (4 : Int) < (n : Int))]
      exact iteT ⟨one_line, fun p np => k.refuse O (Same.refl H) np⟩
    rw [decide_eq_false (by omega : ¬ (4 : Int) < (n : Int))]
    refine iteF ?_
    rw [part_yes (by omega)] at k
    obtain ⟨⟨dx, m, b, h1, h2, h3⟩, ⟨kvs, h4, h5⟩⟩ := id O
    refine ⟨_, rfl, h, C, dx, _, _, rfl, h1, X.cl, X.nF, hF_files, d, kvs, _, rfl, .inl h4, h5.keys, ?_, fun ys ch perm srt nch => ?_⟩
    · rw [List.length_map]; have := G.few; omega
    rw [sorted_nums G perm srt]
    have e1 : Same H (upd H ch (.lst (wv (nums s)))) := same_new nch
    have hch : upd H ch (.lst (wv (nums s))) ch = some (.lst (wv (nums s))) := upd_same
    generalize upd H ch (.lst (wv (nums s))) = H1 at e1 hch ⊢
    have lnum : (nums s).length ≤ 6 := by rw [nums_len]; exact G.few
    refine ⟨ch, rfl, ⟨_, SqL.of hch⟩, fun D nD => lc_list (K := K) (a := ch) (xs := wv (nums s)) (fun i H' => ∃ H0, Same H1 H0 ∧ H' = upd H0 D (.lst (wv (((nums s).take i).map fun n => wOf s (sentsOf s n))))) ?_ ?_ ?_ ?_⟩
    · exact ⟨H1, Same.refl H1, rfl⟩
    · rintro i H' _ ⟨H0, s1, rfl⟩
      exact SqL.of ((same_upd s1 nD) _ _ hch)
    · rintro i x H' hi ⟨H0, s1, rfl⟩
      have hl : i < (nums s).length := by have := (List.getElem?_eq_some_iff.mp hi).1; rw [wv_len] at this; exact this
      obtain ⟨z, hzi⟩ : ∃ z, (nums s)[i]? = some z := ⟨(nums s)[i], List.getElem?_eq_getElem hl⟩
      rw [wv_get hzi] at hi
      cases hi
      have e2 : Same H (upd H0 D (.lst (wv (((nums s).take i).map fun n => wOf s (sentsOf s n))))) := e1.trans (same_upd s1 nD)
      have O2 := O.same e2
      obtain ⟨⟨dx2, m2, b2, g1, _⟩, ⟨kvs2, g4, g5⟩⟩ := id O2
      obtain ⟨af, xf, ea, haf, hsf⟩ := g5.at (mem_nums.mp (List.mem_of_getElem? hzi))
      have dg := DGet.k (k := Sum.inl (z : Int)) g4
      rw [ea] at dg
      have l4 := sentsOf_len G z
      refine ⟨rfl, _, rfl, h, dx2, _, rfl, g1, hF_no (by decide +kernel), _, rfl, h, C, dx2, _, _, rfl, g1, X.cl, X.nF, hF_files, _, rfl, d, .ref af, rfl, dg, h, d, av, af, xf, _, s, rfl, O2, G, haf, hsf, by omega, sentsOf_ok G z, fun H3 e3 => ?_⟩
      refine ⟨_, e3 _ _ upd_same, ?_, H3, (same_upd s1 nD).trans e3, ?_⟩
      · rw [wv_len, List.length_map, List.length_take]; exact small_line (by omega)
      · rw [take_more hzi, List.map_append]
        show _ = upd H3 D (.lst (wv (((nums s).take i).map (fun n => wOf s (sentsOf s n)) ++ [wOf s (sentsOf s z)])))
        rw [wv_snoc]
    · rintro H' ⟨H0, s1, rfl⟩
      rw [wv_len, List.take_length, ← ws_eq G]
      have lws : (ws s).length ≤ 6 := by rw [ws_eq G, List.length_map]; exact lnum
      have e2 : Same H (upd H0 D (.lst (wv (ws s)))) := e1.trans (same_upd s1 nD)
      have hD : upd H0 D (.lst (wv (ws s))) D = some (.lst (wv (ws s))) := upd_same
      generalize upd H0 D (.lst (wv (ws s))) = H2 at e2 hD ⊢
      have h0 : 0 < n := by omega
      have dm := deal_mem (ws s) n h0
      refine ⟨_, rfl, _, rfl, D, ws s, n, rfl, hD, lws, h0, by omega, fun H3 v e3 sv => ?_⟩
      refine ⟨_, rfl, _, rfl, _, rfl, v, D, _, ws s, n, rfl, sv, e3 _ _ hD, dm.1, dm.2, by omega, by omega, fun H4 p4 e4 np4 hp4 => ?_⟩
      have sp : SqL K H4 p4 (((Ut10.loads (ws s) n (Ut10.deal (ws s) n)).map fun n : Nat => (n : Int)).map V.int) := by rw [← wv_ints]; exact SqL.of hp4
      have lp : 0 < ((Ut10.loads (ws s) n (Ut10.deal (ws s) n)).map fun n : Nat => (n : Int)).length := by rw [List.length_map, loads_len]; exact h0
      refine ⟨_, rfl, p4, _, rfl, sp, lp, fun m1 hm1 g1 => ?_⟩
      obtain rfl := max_is hm1 g1
      refine ⟨_, rfl, p4, _, rfl, sp, lp, fun m2 hm2 g2 => ?_⟩
      obtain rfl := min_is hm2 g2
      have e24 := (e2.trans e3).trans e4
      refine ⟨two_line, fun l nl => ?_⟩
      obtain ⟨tv, rfl, htv⟩ := (sv.same e4).same (same_new (o := HO.lst [V.int ((Ut10.most (Ut10.loads (ws s) n (Ut10.deal (ws s) n)) : Nat) : Int), V.int ((Ut10.fewest (Ut10.loads (ws s) n (Ut10.deal (ws s) n)) : Nat) : Int)]) nl)
      refine ⟨_, rfl, tv, _, rfl, .inr (SqT.of htv), fun l2 nl2 => ?_⟩
      refine ⟨l, l2, _, _, rfl, rfl, same_new nl2 _ _ upd_same, upd_same, ?_, fun q nq => ?_⟩
      · rw [wv_len, dm.1]
        exact Nat.le_of_lt (small_line (by simp; omega))
      · refine k.keep O (e24.trans (((same_new nl).trans (same_new nl2)).trans (same_new nq))) (e24.free (Same.free (same_new nl) (Same.free (same_new nl2) nq))) ?_
        rw [upd_same, ints_wv]
        rfl
/-! ### House.show -/
abbrev sShow : Stmt := inClass (top 39) 13
def spShow (K : PySem.W.Frag) (C : Addr) : Sp := fun vs H Q _ => ∃ (h d av : Addr) (s : Ut10.St), vs = [.ref h] ∧ HouseAt K C H h d s av ∧ Good s ∧ Done K C H h d av (Ut10.step s .shows) Q
theorem scShow : FnScope ["self", "shown", "number"] ["self"] (defScope sShow) := ⟨rfl, rfl, rfl, by decide +kernel, rfl, by decide +kernel, by decide +kernel⟩
theorem ok_show {f : Addr} {fd : FuncData} (F : Fun K "show" "House.show" sShow f fd) (T : Txt mg) (X : HTxt K mg C) : FnOk P w K mg base CX0 1 f fd ["self"] (spShow K C) := by
  refine F.ok scShow (fun vs H Q E h => ?_) (fun cdv A outer s0 H vs Q E hr q => ?_)
  · obtain ⟨h, d, av, s, rfl, _⟩ := h
    rfl
  · obtain ⟨h, d, av, s, rfl, O, G, k⟩ := q
    have hu := hu_of hr
    refine ⟨_, pss_cons (ps_set (i := 1) scShow.nd rfl (Or.inl rfl) (pe_lst (pa_cons (pe_callB call_lenD (by rfl) T.len PySem.boot_len (pa_cons (pe_fld (pv 0) rfl) pa_nil)) (pa_cons (pe_callB call_len_seq (by rfl) T.len PySem.boot_len (pa_cons (pe_fld (pv 0) rfl) pa_nil)) pa_nil))))
      (pss_cons (ps_for PassesOwn.never rfl (pi_list (pe_callB (call_sortedDI rfl) (by rfl) T.sorted (by decide +kernel) (pa_cons (pe_fld (pv 0) rfl) pa_nil))) (pg_name (i := 2) scShow.nd rfl (Or.inl rfl))
        (pss_one (ps_expr (pe_bm PySem.F.plainAttrs_list PySem.F.slot_list_extend PySem.F.type_list_extend mt_extend (pv 1) (pa_cons (pe_lst (pa_cons (pv 2) (pa_cons (pe_callB call_len_seq (by rfl) T.len PySem.boot_len (pa_cons (pe_dget hu (pe_fld (pv 0) rfl) (pv 2) (fun _ _ => rfl)) pa_nil)) pa_nil))) pa_nil)))))
      (pss_one (ps_ret (pv 1)))), ?_⟩
    rw [shows_eq G] at k
    obtain ⟨⟨dx, m, b, h1, ⟨_, xm, hm, hsm⟩, h3⟩, ⟨kvs, h4, h5⟩⟩ := id O
    refine ⟨_, rfl, h, C, dx, _, _, rfl, h1, X.cl, X.nF, hF_files, d, kvs, rfl, h4, _, rfl, h, C, dx, _, _, rfl, h1, X.cl, X.nM, hF_mem, m, _, rfl, .inl (SqL.of hm), two_line, fun p np => ?_⟩
    rw [h5.len, hsm.len]
    have e1 : Same H (upd H p (.lst [V.int (s.files.length : Nat), V.int (s.memory.length : Nat)])) := same_new np
    have hp1 : upd H p (.lst [V.int (s.files.length : Nat), V.int (s.memory.length : Nat)]) p = some (.lst (wv ([s.files.length, s.memory.length] ++ showRow s ((nums s).take 0)))) := upd_same
    refine ⟨_, rfl, h, C, dx, _, _, rfl, e1 _ _ h1, X.cl, X.nF, hF_files, d, kvs, _, rfl, .inl (e1 _ _ h4), h5.keys, ?_, fun ys ch perm srt nch => ?_⟩
    · rw [List.length_map]; have := G.few; omega
    rw [sorted_nums G perm srt]
    have lnum : (nums s).length ≤ 6 := by rw [nums_len]; exact G.few
    have ncp : ch ≠ p := fun z => by rw [z, upd_same] at nch; cases nch
    refine ⟨ch, rfl, ⟨_, SqL.of upd_same⟩, for_list (K := K) (a := ch) (xs := wv (nums s)) (fun i σ H' => ∃ (x2 : Option V), σ = [some (.ref h), some (.ref p), x2] ∧ Same H H' ∧ H' ch = some (.lst (wv (nums s))) ∧ H' p = some (.lst (wv ([s.files.length, s.memory.length] ++ showRow s ((nums s).take i))))) ?_ ?_ ?_ ?_⟩
    · exact ⟨_, rfl, e1.trans (same_new nch), upd_same, same_new nch _ _ hp1⟩
    · rintro i σ H' _ ⟨x2, rfl, _, z, _⟩
      exact SqL.of z
    · rintro i x σ H' hi ⟨x2, rfl, e3, hch3, hp3⟩
      have hl : i < (nums s).length := by have := (List.getElem?_eq_some_iff.mp hi).1; rw [wv_len] at this; exact this
      obtain ⟨z, hzi⟩ : ∃ z, (nums s)[i]? = some z := ⟨(nums s)[i], List.getElem?_eq_getElem hl⟩
      rw [wv_get hzi] at hi
      cases hi
      obtain ⟨⟨dx2, m2, b2, g1, _⟩, ⟨kvs2, g4, g5⟩⟩ := O.same e3
      obtain ⟨af, xf, ea, haf, hsf⟩ := g5.at (mem_nums.mp (List.mem_of_getElem? hzi))
      have dg := DGet.k (k := Sum.inl (z : Int)) g4
      rw [ea] at dg
      refine ⟨_, rfl, .inl ⟨rfl, _, SqL.of hp3⟩, _, rfl, _, rfl, h, C, dx2, _, _, rfl, g1, X.cl, X.nF, hF_files, _, rfl, d, .ref af, rfl, dg, af, _, rfl, .inl (SqL.of haf), two_line, fun l nl => ?_⟩
      have nlp : p ≠ l := ne_of_none hp3 nl
      refine ⟨p, l, _, _, rfl, rfl, same_new nl _ _ hp3, upd_same, ?_, ?_⟩
      · rw [wv_len, List.length_append, showRow_len, List.length_take]
        exact Nat.le_of_lt (small_line (by simp; omega))
      · refine ⟨_, rfl, same_upd (e3.trans (same_new nl)) np, by rw [upd_ne ncp]; exact same_new nl _ _ hch3, ?_⟩
        rw [upd_same, showRow_take hzi, ← List.append_assoc, wv_append ([s.files.length, s.memory.length] ++ showRow s ((nums s).take i)) [z, (sentsOf s z).length], hsf.len]
        rfl
    · rintro σ H' ⟨x2, rfl, e3, hch3, hp3⟩
      rw [wv_len, List.take_length] at hp3
      exact ⟨_, rfl, k.keep O e3 np (by rw [ints_wv]; exact hp3)⟩
end
end Wc

namespace Wc
open PySem PySem.Spec PyProof.Rows L2
open Ut10 (Sent File Band)
theorem fits_small {z : Int} (h0 : 0 ≤ z) (h1 : z ≤ 1000000) : Builtin.Range.rangeFitsLong z = true := by
  unfold Builtin.Range.rangeFitsLong
  rw [decide_eq_true (by omega : -(2 ^ 63) ≤ z), decide_eq_true (by omega : z < 2 ^ 63)]
  rfl
theorem rg_two (n : Nat) (h : n ≤ 1000) : RgC 0 ((2 * n : Nat) : Int) 2 n := by
  have e : Builtin.Range.rangeSize 0 ((2 * n : Nat) : Int) 2 = (n : Int) := by
    rw [rangeSize_pos (by decide) (by omega)]
    omega
  refine ⟨by decide, by decide, ?_, e⟩
  unfold Builtin.Range.small
  rw [e, fits_small (z := 0) (by decide) (by decide), fits_small (by omega) (by omega), fits_small (z := 2) (by decide) (by decide), fits_small (z := (n : Int)) (by omega) (by omega), if_pos (by decide), fits_small (by omega) (by omega), Bool.or_true]
  rfl
theorem BandsAt.snoc {K : PySem.W.Frag} {H : Hp} {vs : List V} {bs : List Band} {v : V} {b : Band} (h : BandsAt K H vs bs) (hv : BandAt K H v b) : BandsAt K H (vs ++ [v]) (bs ++ [b]) := by
  refine ⟨by rw [List.length_append, List.length_append, h.len]; rfl, fun i u hi => ?_⟩
  by_cases c : i < vs.length
  · rw [List.getElem?_append_left c] at hi
    obtain ⟨x, h1, h2⟩ := h.get i u hi
    exact ⟨x, by rw [List.getElem?_append_left (by rw [← h.len]; exact c)]; exact h1, h2⟩
  · rw [List.getElem?_append_right (by omega)] at hi
    rw [List.getElem?_append_right (by rw [← h.len]; omega), ← h.len]
    generalize i - vs.length = j at hi ⊢
    cases j with
    | zero =>
      have e : v = u := Option.some.inj hi
      subst e
      exact ⟨b, rfl, hv⟩
    | succ j => simp at hi
section
variable {P : Program} {w : World} {K : PySem.W.Frag} {mg : Str → Option Value} {base : Heap} {C : Addr}
/-! ### bands_of -/
abbrev sBands : Stmt := top 54
def spBands (K : PySem.W.Frag) : Sp := fun vs H Q _ => ∃ (a : Addr) (bs : List Band), vs = [.ref a] ∧ SqL K H a (wv (flat2 bs)) ∧ bs.length ≤ 1000 ∧
  ∀ (H' : Hp) (p : Addr) (xs : List V), Same H H' → H p = none → H' p = some (.lst xs) → BandsAt K H' xs bs → Q (.ref p) H'
theorem scBands : FnScope ["row", "k"] ["row"] (defScope sBands) := ⟨rfl, rfl, rfl, by decide +kernel, rfl, by decide +kernel, by decide +kernel⟩
theorem ok_bands {f : Addr} {fd : FuncData} (F : Fun K "bands_of" "bands_of" sBands f fd) (T : Txt mg) : FnOk P w K mg base CX0 1 f fd ["row"] (spBands K) := by
  refine F.ok scBands (fun vs H Q E h => ?_) (fun cdv A outer s0 H vs Q E hr q => ?_)
  · obtain ⟨a, bs, rfl, _⟩ := h
    rfl
  · obtain ⟨a, bs, rfl, ha, hlen, k⟩ := q
    refine ⟨_, pss_one (ps_ret (pe_lc (own := [("k", 1)]) (g := gName 1) (tt := tYes) (te := tTup (tCons (tOp (rIxL K) (tVar 0) (tVar 1)) (tCons (tOp (rIxL K) (tVar 0) (tOp (rI0 fun i j => V.int (i + j)) (tVar 1) (tC (.int 1)))) tNil))) rfl scBands.nd
        (pi_range3 (by rfl) T.range (pa_cons pe_int (pa_cons (pe_callB call_len_seq (by rfl) T.len PySem.boot_len (pa_cons (pv 0) pa_nil)) (pa_cons pe_int pa_nil))))
        (blkOk_by (N := ["row", "k"]) (sc := defScope sBands) (by decide +kernel))
        (fun _ _ _ _ _ => pg_name (i := 1) scBands.nd rfl (Or.inl rfl)) (fun _ _ _ _ _ => pts_nil)
        (fun _ _ _ _ _ => pe_tup (pa_cons (pe_ix ix_list (pv 0) (pv 1) (fun _ _ => rfl)) (pa_cons (pe_ix ix_list (pv 0) (pe_op op_add (pv 1) pe_int) (fun _ _ => rfl)) pa_nil))))), ?_⟩
    refine ⟨_, rfl, a, _, rfl, .inl ha, 0, _, 2, bs.length, rfl, ?_, fun D nD => ?_⟩
    · rw [wv_len, flat2_length]
      exact rg_two _ hlen
    · refine lc_it walk_rangeC (fun i H' => Same H H' ∧ ∃ xs, H' D = some (.lst xs) ∧ BandsAt K H' xs (bs.take i)) ⟨same_new nD, [], upd_same, ⟨rfl, fun i v z => by simp at z⟩⟩ (fun _ _ _ _ => trivial) ?_ ?_
      · rintro i x H1 H' hi ⟨e0, xs, hD, hb⟩ ⟨rfl, rfl⟩
        obtain ⟨b, hbi⟩ : ∃ b, bs[i]? = some b := ⟨bs[i], List.getElem?_eq_getElem hi⟩
        obtain ⟨g1, g2⟩ := flat2_get bs i b hbi
        have ha' : SqL K H' a (wv (flat2 bs)) := e0.seq ha
        have v1 : atI (wv (flat2 bs)) (0 + (i : Nat) * 2) = some (.int (b.1 : Nat)) := by
          have : (wv (flat2 bs))[2 * i]? = some (.int (b.1 : Nat)) := by unfold wv; rw [List.getElem?_map, g1]; rfl
          have := atI_nat this
          rw [show ((2 * i : Nat) : Int) = 0 + (i : Nat) * 2 by omega] at this
          exact this
        have v2 : atI (wv (flat2 bs)) (0 + (i : Nat) * 2 + 1) = some (.int (b.2 : Nat)) := by
          have : (wv (flat2 bs))[2 * i + 1]? = some (.int (b.2 : Nat)) := by unfold wv; rw [List.getElem?_map, g2]; rfl
          have := atI_nat this
          rw [show ((2 * i + 1 : Nat) : Int) = 0 + (i : Nat) * 2 + 1 by omega] at this
          exact this
        refine ⟨rfl, _, rfl, _, rfl, a, _, _, _, rfl, rfl, ha', v1, _, rfl, _, rfl, _, _, rfl, rfl, a, _, _, _, rfl, rfl, ha', v2, two_line, fun t nt => ?_⟩
        refine ⟨xs, (same_new nt) _ _ hD, ?_, ?_, xs ++ [.ref t], upd_same, ?_⟩
        · have := hb.len
          rw [List.length_take] at this
          exact Nat.lt_of_le_of_lt (by omega : xs.length ≤ 1000) (by decide)
        · exact same_upd (e0.trans (same_new nt)) nD
        · rw [take_more hbi]
          have lowD : Low D (upd H' t (.tup [.int (b.1 : Nat), .int (b.2 : Nat)])) (upd (upd H' t (.tup [.int (b.1 : Nat), .int (b.2 : Nat)])) D (.lst (xs ++ [.ref t]))) := (Low.refl _).upd_av ((same_new nt) _ _ hD)
          exact (BandsAt.snoc (hb.same (same_new nt)) ⟨t, rfl, .inl upd_same⟩).low lowD
      · rintro H' ⟨e0, xs, hD, hb⟩
        rw [List.take_length] at hb
        exact k _ D xs e0 nD hD hb
end
end Wc

namespace Wc
open PySem PySem.Spec PyProof.Rows L2
open Ut10 (Sent File Band)
theorem putF_le (f : Str) (v : V) : ∀ fs : List (Str × V), (putF f v fs).length ≤ fs.length + 1
  | [] => Nat.le_refl _
  | (g, x) :: r => by
    by_cases h : g = f
    · subst h; rw [pt0]; simp
    · rw [pt1 h rfl, List.length_cons, List.length_cons]; exact Nat.succ_le_succ (putF_le f v r)
section
variable {P : Program} {w : World} {K : PySem.W.Frag} {mg : Str → Option Value} {base : Heap} {C : Addr}
/-! ### House.__init__ -/
/-- the two bands that are written at the top -/
def FB (K : PySem.W.Frag) (mg : Str → Option Value) : Prop := ∃ t0 t1 t2 : Addr, Cst mg "FIRST_BANDS" (.ref t0) ∧ SqT K (fun _ => none) t0 [.ref t1, .ref t2] ∧ SqT K (fun _ => none) t1 (bv (100, 10)) ∧ SqT K (fun _ => none) t2 (bv (75, 60))
abbrev sHInit : Stmt := inClass (top 39) 0
def spHInit (K : PySem.W.Frag) (C : Addr) : Sp := fun vs H Q _ => ∃ (p dx : Addr), vs = [.ref p] ∧ H p = some (.ins C dx []) ∧
  ∀ (H' : Hp) (d : Addr), HouseAt K C H' p d Ut10Neutral.start p → (∀ b o, H b = some o → b ≠ p → H' b = some o) → H d = none → Q .non H'
theorem scHInit : FnScope ["self"] ["self"] (defScope sHInit) := ⟨rfl, rfl, rfl, by decide +kernel, rfl, by decide +kernel, by decide +kernel⟩
theorem ok_hinit {f : Addr} {fd : FuncData} (F : Fun K "__init__" "House.__init__" sHInit f fd) (T : Txt mg) (X : HTxt K mg C) (B : FB K mg) : FnOk P w K mg base CX0 1 f fd ["self"] (spHInit K C) := by
  refine F.ok scHInit (fun vs H Q E h => ?_) (fun cdv A outer s0 H vs Q E hr q => ?_)
  · obtain ⟨p, dx, rfl, _⟩ := h
    rfl
  · obtain ⟨p, dx, rfl, hp, k⟩ := q
    obtain ⟨t0, t1, t2, c0, w0, w1, w2⟩ := B
    refine ⟨_, pss_cons (ps_fld (pv 0) pe_dnewK rfl) (pss_cons (ps_fld (pv 0) pe_int rfl) (pss_cons (ps_fld (pv 0) (pe_lst pa_nil) rfl) (pss_cons (ps_fld (pv 0) (pe_cst T.cAgain) rfl)
      (pss_one (ps_fld (pv 0) (pe_callTy call_list_of (by rfl) T.list (by decide +kernel) (pa_cons (pe_cst c0) pa_nil)) rfl))))), ?_⟩
    intro d hd
    have npd : p ≠ d := ne_of_none hp hd
    refine ⟨_, rfl, p, C, dx, [], rfl, (by rw [upd_ne npd]; exact hp), X.cl, X.nF, (by show 0 < 1000; decide), _, rfl, p, C, dx, _, rfl, upd_same, X.cl, X.nN, (by show 1 < 1000; decide), Nat.zero_le _, fun m hm => ?_⟩
    rw [upd_upd] at hm ⊢
    have npm : p ≠ m := ne_of_none upd_same hm
    refine ⟨_, rfl, p, C, dx, _, rfl, (by rw [upd_ne npm]; exact upd_same), X.cl, X.nM, ?_, _, rfl, p, C, dx, _, rfl, upd_same, X.cl, X.nA, ?_, ?_⟩
    · have q1 := putF_le "files" (V.ref d) []
      have q2 := putF_le "next_number" (V.int 0) (putF "files" (V.ref d) [])
      simp at q1; omega
    · have q1 := putF_le "files" (V.ref d) []
      have q2 := putF_le "next_number" (V.int 0) (putF "files" (V.ref d) [])
      have q3 := putF_le "memory" (V.ref m) (putF "next_number" (V.int 0) (putF "files" (V.ref d) []))
      simp at q1; omega
    rw [upd_upd]
    refine ⟨t0, _, rfl, .inr (same_tup (fun b o z => by cases z) w0), fun b hb => ?_⟩
    have npb : p ≠ b := ne_of_none upd_same hb
    refine ⟨_, rfl, p, C, dx, _, rfl, (by rw [upd_ne npb]; exact upd_same), X.cl, X.nB, ?_, ?_⟩
    · have q1 := putF_le "files" (V.ref d) []
      have q2 := putF_le "next_number" (V.int 0) (putF "files" (V.ref d) [])
      have q3 := putF_le "memory" (V.ref m) (putF "next_number" (V.int 0) (putF "files" (V.ref d) []))
      have q4 := putF_le "again" (V.int 20) (putF "memory" (V.ref m) (putF "next_number" (V.int 0) (putF "files" (V.ref d) [])))
      simp at q1; omega
    rw [hF_made]
    have hmd : H d = none := hd
    have nm0 : upd H d (.dK []) m = none := upd_free hm
    have nmd : m ≠ d := fun z => by rw [z, upd_same] at nm0; cases nm0
    have nb0 := upd_free (upd_free hb)
    have nbm : b ≠ m := fun z => by
      have q := upd_free hb
      rw [z, upd_same] at q
      cases q
    have nbd : b ≠ d := fun z => by
      have q := upd_free nb0
      rw [z, upd_same] at q
      cases q
    refine k _ d ⟨⟨dx, m, b, upd_same, ⟨npm.symm, [], ?_, SentsAt.nil⟩, ⟨npb.symm, [.ref t1, .ref t2], ?_, ⟨rfl, fun i v hi => ?_⟩⟩⟩, ⟨[], ?_, .nil⟩⟩ (fun c o e hc => ?_) hd
    · rw [upd_ne npm.symm, upd_ne nbm.symm, upd_ne npm.symm, upd_same]
    · rw [upd_ne npb.symm, upd_same]
    · match i, hi with
      | 0, hi => cases hi; exact ⟨(100, 10), rfl, t1, rfl, .inr w1⟩
      | 1, hi => cases hi; exact ⟨(75, 60), rfl, t2, rfl, .inr w2⟩
      | i + 2, hi => simp at hi
    · rw [upd_ne npd.symm, upd_ne nbd.symm, upd_ne npd.symm, upd_ne nmd.symm, upd_ne npd.symm, upd_same]
    · have nd : H d = none := hd
      rw [upd_ne hc, upd_ne (fun z => by subst z; exact absurd (upd_free (upd_free nb0)) (by rw [e]; simp)), upd_ne hc, upd_ne (fun z => by subst z; exact absurd (upd_free nm0) (by rw [e]; simp)), upd_ne hc, upd_ne (ne_of_none e nd)]
      exact e
end
end Wc

namespace Wc
open PySem PySem.Spec PyProof.Rows L2
open Ut10 (Sent File Band)
/-! ### the reader as an object -/
def rF (a : Addr) (n : Nat) : List (Str × V) := [("numbers", .ref a), ("place", .int (n : Int))]
theorem rF_nums {a : Addr} {n : Nat} : (rF a n).lookup ("numbers" : Str) = some (.ref a) := lk0
theorem rF_place {a : Addr} {n : Nat} : (rF a n).lookup ("place" : Str) = some (.int (n : Int)) := lk1 (by decide +kernel) lk0
theorem rF_no {a : Addr} {n : Nat} {k : Str} (h : (k == ("numbers" : Str)) = false ∧ (k == ("place" : Str)) = false) : (rF a n).lookup k = none := lk1 h.1 (lk1 h.2 rfl)
theorem rF_put {a : Addr} {n : Nat} (z : Int) (m : Nat) (e : z = (m : Int)) : putF "place" (.int z) (rF a n) = rF a m := by
  subst e
  exact pt1 (by decide +kernel) pt0
theorem rF_made {a : Addr} : putF "place" (.int 0) (putF "numbers" (.ref a) []) = rF a 0 := pt1 (by decide +kernel) rfl
def ReaderAt (C : Addr) (H : Hp) (r a : Addr) (n : Nat) : Prop := ∃ dx, H r = some (.ins C dx (rF a n))
theorem ReaderAt.same {C r a : Addr} {n : Nat} {H H' : Hp} (e : Same H H') (h : ReaderAt C H r a n) : ReaderAt C H' r a n := by
  obtain ⟨dx, h⟩ := h
  exact ⟨dx, e _ _ h⟩
structure RTxt (K : PySem.W.Frag) (mg : Str → Option Value) (C : Addr) : Prop where
  cl : Cls K C
  nN : NoAttr K C "numbers"
  nP : NoAttr K C "place"
  gC : mg "CallReader" = some (.ref C)
section
variable {P : Program} {w : World} {K : PySem.W.Frag} {mg : Str → Option Value} {base : Heap} {C : Addr}
abbrev sRInit : Stmt := inClass (top 52) 0
abbrev sMore : Stmt := inClass (top 52) 1
abbrev sTake : Stmt := inClass (top 52) 2
abbrev sRow : Stmt := inClass (top 52) 3
def spRInit (C : Addr) : Sp := fun vs H Q _ => ∃ (p dx a : Addr), vs = [.ref p, .ref a] ∧ H p = some (.ins C dx []) ∧ ∀ H' : Hp, ReaderAt C H' p a 0 → (∀ b o, H b = some o → b ≠ p → H' b = some o) → Q .non H'
theorem scRInit : FnScope ["self", "numbers"] ["self", "numbers"] (defScope sRInit) := ⟨rfl, rfl, rfl, by decide +kernel, rfl, by decide +kernel, by decide +kernel⟩
theorem ok_rinit {f : Addr} {fd : FuncData} (F : Fun K "__init__" "CallReader.__init__" sRInit f fd) (X : RTxt K mg C) : FnOk P w K mg base CX0 1 f fd ["self", "numbers"] (spRInit C) := by
  refine F.ok scRInit (fun vs H Q E h => ?_) (fun cdv A outer s0 H vs Q E hr q => ?_)
  · obtain ⟨p, dx, a, rfl, _⟩ := h
    rfl
  · obtain ⟨p, dx, a, rfl, hp, k⟩ := q
    refine ⟨_, pss_cons (ps_fld (pv 0) (pv 1) rfl) (pss_one (ps_fld (pv 0) pe_int rfl)), ?_⟩
    refine ⟨_, rfl, _, rfl, p, C, dx, [], rfl, hp, X.cl, X.nN, (by show 0 < 1000; decide), _, rfl, p, C, dx, _, rfl, upd_same, X.cl, X.nP, (by show 1 < 1000; decide), ?_⟩
    rw [upd_upd, rF_made]
    exact k _ ⟨dx, upd_same⟩ fun b o e hb => by rw [upd_ne hb]; exact e
def spMore (K : PySem.W.Frag) (C : Addr) : Sp := fun vs H Q _ => ∃ (r a : Addr) (n : Nat) (xs : List V), vs = [.ref r] ∧ ReaderAt C H r a n ∧ SqL K H a xs ∧ Q (.bl (decide (n < xs.length))) H
theorem scMore : FnScope ["self"] ["self"] (defScope sMore) := ⟨rfl, rfl, rfl, by decide +kernel, rfl, by decide +kernel, by decide +kernel⟩
theorem ok_more {f : Addr} {fd : FuncData} (F : Fun K "has_more" "CallReader.has_more" sMore f fd) (T : Txt mg) (X : RTxt K mg C) : FnOk P w K mg base CX0 1 f fd ["self"] (spMore K C) := by
  refine F.ok scMore (fun vs H Q E h => ?_) (fun cdv A outer s0 H vs Q E hr q => ?_)
  · obtain ⟨r, a, n, xs, rfl, _⟩ := h
    rfl
  · obtain ⟨r, a, n, xs, rfl, ⟨dx, hr0⟩, ha, k⟩ := q
    refine ⟨_, pss_one (ps_ret (pe_cmpR op_lt (pe_fld (pv 0) rfl) (pe_callB call_len_seq (by rfl) T.len PySem.boot_len (pa_cons (pe_fld (pv 0) rfl) pa_nil)) (nomark _))), ?_⟩
    refine ⟨_, rfl, r, C, dx, _, _, rfl, hr0, X.cl, X.nP, rF_place, _, rfl, r, C, dx, _, _, rfl, hr0, X.cl, X.nN, rF_nums, a, _, rfl, .inl ha, _, _, rfl, rfl, ?_⟩
    have e : decide (n < xs.length) = decide ((n : Int) < (xs.length : Int)) := decide_eq_decide.mpr (by omega)
    rw [e] at k
    exact k
def spTake (K : PySem.W.Frag) (C : Addr) : Sp := fun vs H Q _ => ∃ (r a : Addr) (n : Nat) (xs : List V) (z : Int), vs = [.ref r] ∧ ReaderAt C H r a n ∧ SqL K H a xs ∧ xs[n]? = some (.int z) ∧
  ∀ H' : Hp, ReaderAt C H' r a (n + 1) → (∀ b o, H b = some o → b ≠ r → H' b = some o) → (∀ p, H' p = none → H p = none) → Q (.int z) H'
theorem scTake : FnScope ["self", "number"] ["self"] (defScope sTake) := ⟨rfl, rfl, rfl, by decide +kernel, rfl, by decide +kernel, by decide +kernel⟩
theorem ok_take {f : Addr} {fd : FuncData} (F : Fun K "take_number" "CallReader.take_number" sTake f fd) (X : RTxt K mg C) : FnOk P w K mg base CX0 1 f fd ["self"] (spTake K C) := by
  refine F.ok scTake (fun vs H Q E h => ?_) (fun cdv A outer s0 H vs Q E hr q => ?_)
  · obtain ⟨r, a, n, xs, z, rfl, _⟩ := h
    rfl
  · obtain ⟨r, a, n, xs, z, rfl, ⟨dx, hr0⟩, ha, hz, k⟩ := q
    refine ⟨_, pss_cons (ps_set (i := 1) scTake.nd rfl (Or.inl rfl) (pe_ix ix_list (pe_fld (pv 0) rfl) (pe_fld (pv 0) rfl) (fun _ _ => rfl)))
      (pss_cons (ps_fld (pv 0) (pe_op op_add (pe_fld (pv 0) rfl) pe_int) rfl) (pss_one (ps_ret (pv 1)))), ?_⟩
    refine ⟨_, rfl, r, C, dx, _, _, rfl, hr0, X.cl, X.nN, rF_nums, _, rfl, r, C, dx, _, _, rfl, hr0, X.cl, X.nP, rF_place, a, _, _, _, rfl, rfl, ha, atI_nat hz, ?_⟩
    refine ⟨_, rfl, r, C, dx, _, _, rfl, hr0, X.cl, X.nP, rF_place, _, _, rfl, rfl, _, rfl, r, C, dx, _, rfl, hr0, X.cl, X.nP, (by show 2 < 1000; decide), _, rfl, ?_⟩
    refine k _ ⟨dx, ?_⟩ (fun b o e hb => by rw [upd_ne hb]; exact e) (fun p => upd_free)
    rw [rF_put ((n : Int) + 1) (n + 1) (by omega)]
    exact upd_same
def spRow (K : PySem.W.Frag) (C : Addr) : Sp := fun vs H Q _ => ∃ (r a : Addr) (n : Nat) (xs ys post : List V), vs = [.ref r] ∧ ReaderAt C H r a n ∧ SqL K H a xs ∧ xs.drop n = .int (ys.length : Int) :: (ys ++ post) ∧
  ∀ (H' : Hp) (p : Addr), ReaderAt C H' r a (n + 1 + ys.length) → (∀ b o, H b = some o → b ≠ r → H' b = some o) → H p = none → H' p = some (.lst ys) → Q (.ref p) H'
theorem scRow : FnScope ["self", "length", "row"] ["self"] (defScope sRow) := ⟨rfl, rfl, rfl, by decide +kernel, rfl, by decide +kernel, by decide +kernel⟩
theorem sq_but {H H' : Hp} {a r dx : Addr} {xs : List V} {fs : List (Str × V)} (h : SqL K H a xs) (hr : H r = some (.ins C dx fs)) (k : ∀ b o, H b = some o → b ≠ r → H' b = some o) : SqL K H' a xs := by
  rcases h with (h | ⟨o, h⟩) | h
  · exact SqL.of (k _ _ h (ne_of h hr (by intro z; cases z)))
  · exact .inl (.inr ⟨o, k _ _ h (ne_of h hr (by intro z; cases z))⟩)
  · exact .inr h
theorem ok_row {f : Addr} {fd : FuncData} (F : Fun K "take_row" "CallReader.take_row" sRow f fd) (X : RTxt K mg C) {ft : Addr} {fdt : FuncData} (mt : Meth K C "take_number" ft) (bt : Binds K fdt ["self"] []) (GT : FnOk P w K mg base CX0 1 ft fdt ["self"] (spTake K C)) :
    FnOk P w K mg base CX0 2 f fd ["self"] (spRow K C) := by
  refine F.ok scRow (fun vs H Q E h => ?_) (fun cdv A outer s0 H vs Q E hr q => ?_)
  · obtain ⟨r, a, n, xs, ys, post, rfl, _⟩ := h
    rfl
  · obtain ⟨r, a, n, xs, ys, post, rfl, ⟨dx, hr0⟩, ha, hd, k⟩ := q
    refine ⟨_, pss_cons (ps_set (i := 1) scRow.nd rfl (Or.inl rfl) (pe_meth0 (pv 0) X.cl mt GT hr bt .nil pass0))
      (pss_cons (ps_set (i := 2) scRow.nd rfl (Or.inl rfl) (pe_slice sl_list (pe_fld (pv 0) rfl) (po_some (pe_fld (pv 0) rfl)) (po_some (pe_op op_add (pe_fld (pv 0) rfl) (pv 1)))))
      (pss_cons (ps_fld (pv 0) (pe_op op_add (pe_fld (pv 0) rfl) (pv 1)) rfl) (pss_one (ps_ret (pv 2))))), ?_⟩
    have hz : xs[n]? = some (.int (ys.length : Int)) := by
      have : (xs.drop n)[0]? = some (.int (ys.length : Int)) := by rw [hd]; rfl
      rw [List.getElem?_drop] at this
      exact this
    have hlx : n + 1 + ys.length ≤ xs.length := by
      have := congrArg List.length hd
      rw [List.length_drop, List.length_cons, List.length_append] at this
      omega
    refine ⟨_, rfl, r, dx, _, rfl, hr0, rF_no (by decide +kernel), r, a, n, xs, _, rfl, ⟨dx, hr0⟩, ha, hz, fun H1 R1 k1 f1 => ?_⟩
    obtain ⟨dx1, hr1⟩ := R1
    have ha1 : SqL K H1 a xs := sq_but ha hr0 k1
    refine ⟨_, rfl, r, C, dx1, _, _, rfl, hr1, X.cl, X.nN, rF_nums, ⟨_, rfl, r, C, dx1, _, _, rfl, hr1, X.cl, X.nP, rF_place, _, rfl, ⟨_, rfl, r, C, dx1, _, _, rfl, hr1, X.cl, X.nP, rF_place, _, rfl, _, _, rfl, rfl, _, rfl, a, _, rfl, ha1, fun p np => ?_⟩⟩⟩
    have ecut : cutV xs (some ((n + 1 : Nat) : Int)) (some (((n + 1 : Nat) : Int) + (ys.length : Int))) = ys := by
      have q := cut_nat xs (n + 1) (n + 1 + ys.length) (by omega) hlx
      refine Eq.trans q ?_
      have e2 : xs.drop (n + 1) = ys ++ post := by
        rw [← List.drop_drop, hd]
        rfl
      rw [e2, show n + 1 + ys.length - (n + 1) = ys.length by omega, List.take_left]
    have hr2 : upd H1 p (.lst (cutV xs (some ((n + 1 : Nat) : Int)) (some (((n + 1 : Nat) : Int) + (ys.length : Int))))) r = some (.ins C dx1 (rF a (n + 1))) := (same_new np) _ _ hr1
    refine ⟨_, rfl, r, C, dx1, _, _, rfl, hr2, X.cl, X.nP, rF_place, _, rfl, _, _, rfl, rfl, _, rfl, r, C, dx1, _, rfl, hr2, X.cl, X.nP, (by show 2 < 1000; decide), _, rfl, ?_⟩
    have npr : p ≠ r := (ne_of_none hr1 np).symm
    refine k _ p ⟨dx1, ?_⟩ (fun b o e hb => ?_) (f1 p np) ?_
    · rw [rF_put (((n + 1 : Nat) : Int) + (ys.length : Int)) (n + 1 + ys.length) (by omega)]
      exact upd_same
    · rw [upd_ne hb]
      exact (same_new np) _ _ (k1 _ _ e hb)
    · rw [upd_ne npr, ecut]
      exact upd_same
end
end Wc

namespace Wc
open PySem PySem.Spec PyProof.Rows L2
open Ut10 (Sent File Band)
/-- one call is answered: the house behind the specification's step, the reader behind the call, the answer in a new list -/
def spCall (K : PySem.W.Frag) (CH CR : Addr) : Sp := fun vs H Q _ => ∃ (h d r a g : Addr) (n : Nat) (s : Ut10.St) (ns t : List Int) (c : List (List Int)),
  vs = [.ref h, .ref r] ∧ HouseAt K CH H h d s g ∧ Good s ∧ ReaderAt CR H r a n ∧ ReqAt K H g a (ns.map V.int) ∧ (∃ o, H g = some (.lst o)) ∧ r ≠ h ∧ Form (ns.drop n) c t ∧ askedR c ∧
  ∀ (H' : Hp) (p : Addr) (n' : Nat), HouseAt K CH H' h d (stepR s c).1 g → ReaderAt CR H' r a n' → ns.drop n' = t → (∀ b o, H b = some o → b ≠ h → b ≠ d → b ≠ r → H' b = some o) → H p = none → H' p = some (.lst ((stepR s c).2.map V.int)) → Q (.ref p) H'
/-- the function of the interface -/
def spAns (K : PySem.W.Frag) : Sp := fun vs H Q _ => ∃ (a : Addr) (ns : List Int), vs = [.ref a] ∧ SqL K H a (ns.map V.int) ∧ PyUt10.answers_asked ns = true ∧
  ∀ (H' : Hp) (p : Addr), H' p = some (.lst ((PyUt10.answers ns).map V.int)) → Q (.ref p) H'
theorem big_line {n : Nat} (h : n ≤ 10000000) : n < sizeLine := Nat.lt_of_le_of_lt h (by decide)
theorem good_stepR {s : Ut10.St} (g : Good s) (c : List (List Int)) : Good (stepR s c).1 := by
  unfold stepR Ut10Neutral.step
  split
  · exact g
  · exact good_step g _
section
variable {P : Program} {w : World} {K : PySem.W.Frag} {mg : Str → Option Value} {base : Heap} {CH CR : Addr}
abbrev sAns : Stmt := top 56
theorem scAns : FnScope ["calls", "house", "reader", "given", "answered"] ["calls"] (defScope sAns) := ⟨rfl, rfl, rfl, by decide +kernel, rfl, by decide +kernel, by decide +kernel⟩
theorem ok_ans {f fI fJ fM : Addr} {fd fdI fdJ fdM : FuncData} (F : Fun K "answers" "answers" sAns f fd) (T : Txt mg) (XH : HTxt K mg CH) (XR : RTxt K mg CR)
    (MH : Mk K CH fI) (bI : Binds K fdI ["self"] []) (GI : FnOk P w K mg base CX0 1 fI fdI ["self"] (spHInit K CH))
    (MR : Mk K CR fJ) (bJ : Binds K fdJ ["self", "numbers"] []) (GJ : FnOk P w K mg base CX0 1 fJ fdJ ["self", "numbers"] (spRInit CR))
    (mM : Meth K CR "has_more" fM) (bM : Binds K fdM ["self"] []) (GM : FnOk P w K mg base CX0 1 fM fdM ["self"] (spMore K CR))
    {lv : Nat} (DC : Df P w K mg base "answer_call" lv ["house", "reader"] (spCall K CH CR)) (hlv : 2 ≤ lv) : FnOk P w K mg base CX0 (lv + 1) f fd ["calls"] (spAns K) := by
  refine F.ok scAns (fun vs H Q E h => ?_) (fun cdv A outer s0 H vs Q E hr q => ?_)
  · obtain ⟨a, ns, rfl, _⟩ := h
    rfl
  · obtain ⟨a, ns, rfl, ha, hask, k⟩ := q
    have hr2 : Room 2 _ := hr.mono hlv
    have hr1 : Room 1 _ := hr2.mono (by decide)
    refine ⟨_, pss_cons (ps_set (i := 1) scAns.nd rfl (Or.inl rfl) (pe_make0 MH GI hr2 rfl XH.gC bI .nil pass0))
      (pss_cons (ps_set (i := 2) scAns.nd rfl (Or.inl rfl) (pe_make MR GJ hr2 rfl XR.gC bJ .nil pass0 (pa_cons (pv 0) pa_nil)))
      (pss_cons (ps_set (i := 3) scAns.nd rfl (Or.inl rfl) (pe_lst pa_nil))
      (pss_cons (ps_while PassesOwn.never (pt_val (pe_meth0 (pv 2) XR.cl mM GM hr1 bM .nil pass0))
        (pss_cons (ps_set (i := 4) scAns.nd rfl (Or.inl rfl) (pe_df DC hr (pa_cons (pv 1) (pa_cons (pv 2) pa_nil))))
        (pss_cons (ps_expr (pe_bm PySem.F.plainAttrs_list PySem.F.slot_list_append PySem.F.type_list_append mt_append (pv 3) (pa_cons (pe_callB call_len_seq (by rfl) T.len PySem.boot_len (pa_cons (pv 4) pa_nil)) pa_nil)))
        (pss_one (ps_expr (pe_bm PySem.F.plainAttrs_list PySem.F.slot_list_extend PySem.F.type_list_extend mt_extend (pv 3) (pa_cons (pv 4) pa_nil)))))))
      (pss_one (ps_ret (pv 3)))))), ?_⟩
    obtain ⟨raw, hL, _, _, heq, hbig⟩ := asked_left hask
    intro h dx nh ndx nex
    refine ⟨h, dx, rfl, upd_same, fun H1 d O1 kp1 nd1 => ⟨rfl, ?_⟩⟩
    have s1 : Same H H1 := Same.made nh ndx kp1
    refine ⟨_, rfl, ?_⟩
    intro r dr nr ndr ner
    refine ⟨r, dr, a, rfl, upd_same, fun H2 R2 kp2 => ⟨rfl, ?_⟩⟩
    have s2 : Same H1 H2 := Same.made nr ndr kp2
    refine ⟨Nat.zero_le _, fun g ng => ?_⟩
    have O2 : HouseAt K CH H2 h d Ut10Neutral.start g := (O1.same s2).re ng
    have A2 : ReqAt K H2 g a (ns.map V.int) := ReqAt.of ((s1.trans s2).seq ha) ng
    have hrh : r ≠ h := by
      obtain ⟨_, _, _, z, _⟩ := O1.ob
      exact (ne_of_none z nr).symm
    have hgh : g ≠ h := by
      obtain ⟨_, _, _, z, _⟩ := O2.ob
      exact (ne_of_none z ng).symm
    have hgd : g ≠ d := by
      obtain ⟨_, z, _⟩ := O2.dc
      exact (ne_of_none z ng).symm
    have hgr : g ≠ r := by
      obtain ⟨_, z⟩ := R2
      exact (ne_of_none z ng).symm
    refine ⟨fun m σ H' => ∃ (s : Ut10.St) (out : List Int) (rw_ : List (List (List Int))) (n : Nat) (v : Option V), m = rw_.length ∧ σ = [some (.ref a), some (.ref h), some (.ref r), some (.ref g), v] ∧ HouseAt K CH H' h d s g ∧ Good s ∧ ReaderAt CR H' r a n ∧ ReqAt K H' g a (ns.map V.int) ∧ Left (ns.drop n) rw_ ∧ H' g = some (.lst (out.map V.int)) ∧ PyUt10.answers ns = out ++ rest s rw_,
      ⟨raw.length, Ut10Neutral.start, [], raw, 0, none, rfl, rfl, O2.same (same_new ng), good_init, R2.same (same_new ng), A2.low (Low.of (same_new ng)), hL, upd_same, heq⟩, ?_⟩
    rintro m σ H' ⟨s, out, rw_, n, v, rfl, rfl, O, G, R, Aq, Lq, hg, he⟩
    obtain ⟨dr', hr'⟩ := id R
    refine ⟨_, rfl, r, dr', _, rfl, hr', rF_no (by decide +kernel), r, a, n, ns.map V.int, rfl, R, Aq.sq, _, rfl, ?_⟩
    rw [List.length_map]
    cases hq : rw_ with
    | nil =>
      subst hq
      have hn : ns.length ≤ n := by
        cases hz : ns.drop n with
        | nil => exact List.drop_eq_nil_iff.mp hz
        | cons x l => rw [hz] at Lq; cases Lq
      rw [decide_eq_false (by omega)]
      refine iteF ⟨_, rfl, ?_⟩
      rw [rest_nil, List.append_nil] at he
      exact k _ g (by rw [he]; exact hg)
    | cons c raw' =>
      subst hq
      obtain ⟨t, hform, hask1, hleft⟩ : ∃ t, Form (ns.drop n) c t ∧ askedR c ∧ Left t raw' := by
        generalize ns.drop n = l at Lq
        cases Lq with
        | cons h1 h2 h3 => exact ⟨_, h1, h2, h3⟩
      have hn : n < ns.length := by
        refine Nat.lt_of_not_le fun z => ?_
        rw [List.drop_eq_nil_iff.mpr z] at hform
        cases hform
      rw [decide_eq_true hn]
      refine iteT ⟨fun σ' H'' => ∃ (s : Ut10.St) (out : List Int) (n : Nat) (v : Option V), σ' = [some (.ref a), some (.ref h), some (.ref r), some (.ref g), v] ∧ HouseAt K CH H'' h d s g ∧ Good s ∧ ReaderAt CR H'' r a n ∧ ReqAt K H'' g a (ns.map V.int) ∧ Left (ns.drop n) raw' ∧ H'' g = some (.lst (out.map V.int)) ∧ PyUt10.answers ns = out ++ rest s raw',
        fun σ' H'' ⟨s, out, n, v, z1, z2, z3, z4, z5, z6, z7, z8⟩ => ⟨raw'.length, by simp, s, out, raw', n, v, rfl, z1, z2, z3, z4, z5, z6, z7, z8⟩, ?_⟩
      refine ⟨_, rfl, _, rfl, h, d, r, a, g, n, s, ns, t, c, rfl, O, G, R, Aq, ⟨_, hg⟩, hrh, hform, hask1, fun H3 p n3 O3 R3 hd3 k3 np hp => ?_⟩
      have hpg : p ≠ g := (ne_of_none hg np).symm
      have hg3 : H3 g = some (.lst (out.map V.int)) := k3 _ _ hg hgh hgd hgr
      have A3 : ReqAt K H3 g a (ns.map V.int) := by
        obtain ⟨_, _, _, zh, _⟩ := O.ob
        obtain ⟨_, zd, _⟩ := O.dc
        refine Aq.low fun b o e q => k3 b o e (fun z => ?_) (fun z => ?_) (fun z => ?_)
        · subst z; rw [zh] at e; cases e; rcases q with ⟨_, q⟩ | ⟨_, q, _⟩ | ⟨_, _, q⟩ <;> cases q
        · subst z; rw [zd] at e; cases e; rcases q with ⟨_, q⟩ | ⟨_, q, _⟩ | ⟨_, _, q⟩ <;> cases q
        · subst z; rw [hr'] at e; cases e; rcases q with ⟨_, q⟩ | ⟨_, q, _⟩ | ⟨_, _, q⟩ <;> cases q
      rw [rest_cons] at he
      have hbl : out.length + 1 + (stepR s c).2.length ≤ 10000000 := by
        have := hbig
        rw [he, List.length_append, List.length_cons, List.length_append] at this
        omega
      refine ⟨_, rfl, .inl ⟨rfl, _, SqL.of hg3⟩, _, rfl, p, _, rfl, .inl (SqL.of hp), g, _, _, rfl, rfl, hg3, ?_, ?_⟩
      · rw [List.length_map]; exact big_line (by omega)
      rw [List.length_map]
      have hp4 : upd H3 g (.lst (out.map V.int ++ [.int ((stepR s c).2.length : Int)])) p = some (.lst ((stepR s c).2.map V.int)) := by rw [upd_ne hpg]; exact hp
      refine ⟨_, rfl, .inl ⟨rfl, _, SqL.of upd_same⟩, _, rfl, g, p, _, _, rfl, rfl, upd_same, hp4, ?_, ?_⟩
      · rw [List.length_append, List.length_map, List.length_map]
        exact Nat.le_of_lt (big_line (by simp; omega))
      rw [upd_upd]
      have low5 : Low g H3 (upd H3 g (.lst (out.map V.int ++ [.int ((stepR s c).2.length : Int)] ++ (stepR s c).2.map V.int))) := (Low.refl H3).upd_av hg3
      refine ⟨(stepR s c).1, out ++ ((stepR s c).2.length : Int) :: (stepR s c).2, n3, _, rfl, O3.low low5 (fun o e => by rw [upd_ne hgh.symm]; exact e) (fun o e => by rw [upd_ne hgd.symm]; exact e), good_stepR G c, ?_, A3.low low5, by rw [hd3]; exact hleft, ?_, ?_⟩
      · obtain ⟨dz, hz⟩ := R3
        exact ⟨dz, by rw [upd_ne hgr.symm]; exact hz⟩
      · rw [upd_same]
        simp
      · rw [he]
        simp
end
end Wc

namespace Wc
open PySem PySem.Spec PyProof.Rows L2
/-- a def of the top as the head has written it -/
def DefIn (K : PySem.W.Frag) (x : Str) (st : Stmt) : Prop := ∃ (f : Addr) (oc : Value) (od : Option Addr) (kV dc pm : Value) (an : Option Addr) (cd ct : Value) (sl : Array (Option Value)),
  PySem.W.nsIn K mainGlobals x = some (some (.ref f)) ∧ K.lookup f = some ⟨oc, od, .func (PySem.W.fnOf x x (defArgs st) (defBody st) (defScope st) .none kV dc pm an cd ct), sl⟩ ∧ PySem.W.codeIn K cd x = true ∧ PySem.W.keepIn K (.ref f) = true
/-- a method of the class at C -/
def MethIn (K : PySem.W.Frag) (C : Addr) (x qual : Str) (st : Stmt) : Prop := ∃ (f : Addr) (oc : Value) (od : Option Addr) (kV dc pm : Value) (an : Option Addr) (cd ct : Value) (sl : Array (Option Value)),
  PySem.W.findIn K (.ref C) x = some (some (.ref f)) ∧ PySem.W.isFn K (.ref f) = true ∧ K.lookup f = some ⟨oc, od, .func (PySem.W.fnOf x qual (defArgs st) (defBody st) (defScope st) .none kV dc pm an cd ct), sl⟩ ∧ PySem.W.codeIn K cd qual = true ∧ PySem.W.keepIn K (.ref f) = true
/-- a class that makes plain instances -/
structure ClsIn (K : PySem.W.Frag) (x : Str) (C : Addr) : Prop where
  a : PySem.W.nsIn K mainGlobals x = some (some (.ref C))
  pg : PySem.W.plainGet K C Str.empty = true
  hd : PySem.W.hasDictIn K C = true
  po : PySem.W.plainOver K C = true
  sa : PySem.W.findIn K (.ref C) "__setattr__" = some (some (.builtin "object.__setattr__"))
  mks : PySem.W.makesIn K C = true
  kc : PySem.W.keepIn K (.ref C) = true
/-- how a def's arguments bind, by its text -/
abbrev BindsBy (x qual : Str) (st : Stmt) (ps : List Str) : Prop := ∀ (kV doc pm : Value) (an : Option Addr) (cdv ct : Value) (us : List Value), us.length = ps.length → bindArgs (PySem.W.fnOf x qual (defArgs st) (defBody st) (defScope st) .none kV doc pm an cdv ct) ⟨us, []⟩ = pure (ps.zip us)
section
variable {P : Program} {w : World} {K : PySem.W.Frag} {mg : Str → Option Value} {base h : Heap}
theorem DefIn.df {x : Str} {st : Stmt} {k : Nat} {ps : List Str} {sp : Sp} (d : DefIn K x st) (X : K.In h) (G : h.Ns mainGlobals mg) (hb : BindsBy x x st ps) (ok : ∀ (f : Addr) (fd : FuncData), Fun K x x st f fd → FnOk P w K mg base CX0 k f fd ps sp) : Df P w K mg base x k ps sp := by
  obtain ⟨f, oc, od, kV, dc, pm, an, cd, ct, sl, a, l, c, kp⟩ := d
  have F := fun_mk (st := st) l c kp
  exact ⟨f, _, PySem.W.mg_of X G a, kp, F.binds hb, ok _ _ F⟩
theorem MethIn.get {C : Addr} {x qual : Str} {st : Stmt} {ps : List Str} (d : MethIn K C x qual st) (hb : BindsBy x qual st ps) : ∃ (f : Addr) (fd : FuncData), Meth K C x f ∧ Fun K x qual st f fd ∧ Binds K fd ps [] := by
  obtain ⟨f, oc, od, kV, dc, pm, an, cd, ct, sl, a, i, l, c, kp⟩ := d
  have F := fun_mk (st := st) l c kp
  exact ⟨f, _, ⟨a, i, kp⟩, F, F.binds hb⟩
theorem ClsIn.cls {x : Str} {C : Addr} (c : ClsIn K x C) : Cls K C := ⟨c.pg, c.hd, c.po, c.sa⟩
theorem ClsIn.mk' {x : Str} {C : Addr} (c : ClsIn K x C) {f : Addr} (m : Meth K C "__init__" f) : Mk K C f := ⟨c.mks, m.at_, m.fn, c.kc⟩
/-- a number of the top -/
def NumIn (K : PySem.W.Frag) (x : Str) (z : Int) : Prop := ∃ t, PySem.W.nsIn K mainGlobals x = some (some (.int z t))
theorem NumIn.cst {x : Str} {z : Int} (n : NumIn K x z) (X : K.In h) (G : h.Ns mainGlobals mg) : Cst mg x (.int z) := by
  obtain ⟨t, a⟩ := n
  exact ⟨_, PySem.W.mg_of X G a, t, rfl⟩
end
end Wc
namespace Wc
open PySem PySem.Spec PyProof.Rows L2
section
variable {K : PySem.W.Frag}
theorem def_in {x : Str} {st : Stmt} {f : Addr} {oc : Value} {od : Option Addr} {kV dc pm : Value} {an : Option Addr} {cd ct : Value} {sl : Array (Option Value)}
    (a : PySem.W.nsIn K mainGlobals x = some (some (.ref f))) (l : K.lookup f = some ⟨oc, od, .func (PySem.W.fnOf x x (defArgs st) (defBody st) (defScope st) .none kV dc pm an cd ct), sl⟩) (c : PySem.W.codeIn K cd x = true) (k : PySem.W.keepIn K (.ref f) = true) : DefIn K x st :=
  ⟨f, oc, od, kV, dc, pm, an, cd, ct, sl, a, l, c, k⟩
theorem meth_in {C : Addr} {x qual : Str} {st : Stmt} {f : Addr} {oc : Value} {od : Option Addr} {kV dc pm : Value} {an : Option Addr} {cd ct : Value} {sl : Array (Option Value)}
    (a : PySem.W.findIn K (.ref C) x = some (some (.ref f))) (i : PySem.W.isFn K (.ref f) = true) (l : K.lookup f = some ⟨oc, od, .func (PySem.W.fnOf x qual (defArgs st) (defBody st) (defScope st) .none kV dc pm an cd ct), sl⟩) (c : PySem.W.codeIn K cd qual = true) (k : PySem.W.keepIn K (.ref f) = true) : MethIn K C x qual st :=
  ⟨f, oc, od, kV, dc, pm, an, cd, ct, sl, a, i, l, c, k⟩
theorem num_in {x : Str} {z : Int} {t : Tok} (a : PySem.W.nsIn K mainGlobals x = some (some (.int z t))) : NumIn K x z := ⟨t, a⟩
/-- a written tuple -/
theorem tup_in {a : Addr} {xs : List V} {oc : Value} {od : Option Addr} {its : Array Value} {n : Nat} {sl : Array (Option Value)} (l : K.lookup a = some ⟨oc, od, .seq its n, sl⟩) (c : oc = .type "tuple") (z : its.size ≤ sizeLine) (r : Vals xs its.toList) : SqT K (fun _ => none) a xs :=
  .inr ⟨_, its, n, l, c, rfl, z, r⟩
end
end Wc

namespace Wc
open PySem PySem.Spec PyProof.Rows L2
open Ut10 (Sent File Band)
theorem ifN {i j : Int} {A B : Prop} (h : i ≠ j) (b : B) : if decide (V.int i = V.int j) = true then A else B := by
  rw [decide_eq_false (fun z => h (V.int.inj z))]
  exact iteF b
theorem ifY {i j : Int} {A B : Prop} (h : i = j) (a : A) : if decide (V.int i = V.int j) = true then A else B := by
  rw [decide_eq_true (by rw [h])]
  exact iteT a
theorem wv_row {x : List Int} (h : ∀ z ∈ x, U32 z) : x.map V.int = wv (x.map Int.toNat) := by
  rw [wv_ints, map_cast h]
def nearA (a b : Sent) : List Int := if Ut10.sentOk a = false ∨ Ut10.sentOk b = false then [-1] else Ut10.ints [Ut10.near a b]
theorem near_step (s : Ut10.St) (a b : Sent) : Ut10.step s (.near a b) = (s, nearA a b) := rfl
section
variable {P : Program} {w : World} {K : PySem.W.Frag} {mg : Str → Option Value} {base : Heap}
/-! ### answer_near -/
abbrev sAnN : Stmt := top 38
def spAnN : Sp := fun vs H Q _ => ∃ (v u : V) (a b : Sent), vs = [v, u] ∧ SentAt H v a ∧ SentAt H u b ∧
  ∀ (H' : Hp) (p : Addr), Same H H' → H p = none → H' p = some (.lst ((nearA a b).map V.int)) → Q (.ref p) H'
theorem scAnN : FnScope ["words", "others"] ["words", "others"] (defScope sAnN) := ⟨rfl, rfl, rfl, by decide +kernel, rfl, by decide +kernel, by decide +kernel⟩
theorem ok_ann {f : Addr} {fd : FuncData} (F : Fun K "answer_near" "answer_near" sAnN f fd) (T : Txt mg) (D1 : Df P w K mg base "is_right_sentence" 1 ["words"] spRightS) (D2 : Df P w K mg base "how_near" 2 ["words", "others"] spNear) : FnOk P w K mg base CX0 3 f fd ["words", "others"] spAnN := by
  refine F.ok scAnN (fun vs H Q E h => ?_) (fun cdv A outer s H vs Q E hr h => ?_)
  · obtain ⟨v, u, a, b, rfl, _⟩ := h
    rfl
  · obtain ⟨v, u, a, b, rfl, hv, hu, k⟩ := h
    have hr1 := hr.mono (by decide : 1 ≤ 2)
    refine ⟨_, pss_cons (ps_if (PW.pt (pw_or (pt_not (pt_val (pe_df D1 hr1 (pa_cons (pv 0) pa_nil)))) (pw_or1 (pt_not (pt_val (pe_df D1 hr1 (pa_cons (pv 1) pa_nil))))))) (pss_one (ps_ret (pe_lst (pa_cons (pe_cst T.cWrong) pa_nil)))) pss_nil)
      (pss_one (ps_ret (pe_lst (pa_cons (pe_df D2 hr (pa_cons (pv 0) (pa_cons (pv 1) pa_nil))) pa_nil)))), ?_⟩
    refine ⟨_, rfl, v, a, rfl, hv, _, rfl, ?_⟩
    cases c1 : Ut10.sentOk a with
    | false =>
      have e : nearA a b = [-1] := if_pos (.inl c1)
      rw [e] at k
      exact iteT (iteT ⟨one_line, fun p np => k _ p (same_new np) np upd_same⟩)
    | true =>
      refine iteF ⟨_, rfl, u, b, rfl, hu, _, rfl, ?_⟩
      cases c2 : Ut10.sentOk b with
      | false =>
        have e : nearA a b = [-1] := if_pos (.inr c2)
        rw [e] at k
        exact iteT ⟨one_line, fun p np => k _ p (same_new np) np upd_same⟩
      | true =>
        have e : nearA a b = Ut10.ints [Ut10.near a b] := if_neg (by rw [c1, c2]; decide)
        rw [e] at k
        have l1 := ok_len c1
        have l2 := ok_len c2
        refine iteF ⟨_, rfl, _, rfl, v, u, a, b, rfl, hv, hu, by omega, by omega, by omega, fun H1 e1 => ⟨one_line, fun p np => ?_⟩⟩
        exact k _ p (e1.trans (same_new np)) (e1.free np) upd_same
/-! ### answer_call -/
/-- a method that keeps its promise -/
def Mt (P : Program) (w : World) (K : PySem.W.Frag) (mg : Str → Option Value) (base : Heap) (C : Addr) (x : Str) (k : Nat) (ps : List Str) (sp : Sp) : Prop := ∃ (f : Addr) (fd : FuncData), Meth K C x f ∧ Binds K fd ps [] ∧ FnOk P w K mg base CX0 k f fd ps sp
/-- where a call stands: the house, the reader, the list handed in, the list that grows -/
structure At (K : PySem.W.Frag) (CH CR : Addr) (H : Hp) (h d r a g : Addr) (n : Nat) (s : Ut10.St) (ns : List Int) : Prop where
  O : HouseAt K CH H h d s g
  R : ReaderAt CR H r a n
  A : ReqAt K H g a (ns.map V.int)
  L : ∃ o, H g = some (.lst o)
  ne : r ≠ h
variable {CH CR : Addr}
theorem At.rd {H : Hp} {h d r a g : Addr} {n : Nat} {s : Ut10.St} {ns : List Int} (x : At K CH CR H h d r a g n s ns) : r ≠ d ∧ g ≠ r ∧ g ≠ h ∧ g ≠ d := by
  obtain ⟨o, hg⟩ := x.L
  obtain ⟨dr, hr⟩ := x.R
  obtain ⟨_, _, _, hh, _⟩ := x.O.ob
  obtain ⟨_, hd, _⟩ := x.O.dc
  exact ⟨ne_of hr hd (by intro z; cases z), ne_of hg hr (by intro z; cases z), ne_of hg hh (by intro z; cases z), ne_of hg hd (by intro z; cases z)⟩
theorem At.move {H H1 : Hp} {h d r a g : Addr} {n n1 : Nat} {s : Ut10.St} {ns : List Int} (x : At K CH CR H h d r a g n s ns) (R1 : ReaderAt CR H1 r a n1) (k1 : ∀ b o, H b = some o → b ≠ r → H1 b = some o) : At K CH CR H1 h d r a g n1 s ns := by
  obtain ⟨h1, h2, _, _⟩ := x.rd
  obtain ⟨dr, hr⟩ := x.R
  obtain ⟨o, hg⟩ := x.L
  have low : Low g H H1 := Low.one hr k1
  exact ⟨x.O.low low (fun o e => k1 _ o e x.ne.symm) (fun o e => k1 _ o e h1.symm), R1, x.A.low low, ⟨o, k1 _ _ hg h2⟩, x.ne⟩
theorem At.same {H H1 : Hp} {h d r a g : Addr} {n : Nat} {s : Ut10.St} {ns : List Int} (x : At K CH CR H h d r a g n s ns) (e : Same H H1) : At K CH CR H1 h d r a g n s ns := by
  obtain ⟨o, hg⟩ := x.L
  exact ⟨x.O.same e, x.R.same e, x.A.low (Low.of e), ⟨o, e _ _ hg⟩, x.ne⟩
theorem free_of {H H1 : Hp} {r a p : Addr} {n : Nat} (R1 : ReaderAt CR H1 r a n) (k1 : ∀ b o, H b = some o → b ≠ r → H1 b = some o) (np : H1 p = none) : H p = none := by
  obtain ⟨dr, hr⟩ := R1
  cases e : H p with
  | none => rfl
  | some o =>
    rw [k1 p o e (ne_of_none hr np).symm] at np
    cases np
/-- the end of a call: the house's promise from the call's -/
theorem call_end {H H2 : Hp} {h d r a g : Addr} {n2 : Nat} {s : Ut10.St} {ns t : List Int} {c : List (List Int)} {cl : Ut10.Call} {Q : VK} (x : At K CH CR H2 h d r a g n2 s ns) (mv : ∀ b o, H b = some o → b ≠ r → H2 b = some o) (hd : ns.drop n2 = t) (hs : ∀ s, stepR s c = Ut10.step s cl)
    (k : ∀ (H' : Hp) (p : Addr) (n' : Nat), HouseAt K CH H' h d (stepR s c).1 g → ReaderAt CR H' r a n' → ns.drop n' = t → (∀ b o, H b = some o → b ≠ h → b ≠ d → b ≠ r → H' b = some o) → H p = none → H' p = some (.lst ((stepR s c).2.map V.int)) → Q (.ref p) H') : Done K CH H2 h d g (Ut10.step s cl) Q := by
  intro H' p O' kp np hp
  rw [hs] at k
  obtain ⟨dr, hr⟩ := x.R
  exact k H' p n2 O' ⟨dr, kp _ _ hr x.ne x.rd.1⟩ hd (fun b o q1 q2 q3 q4 => kp b o (mv b o q1 q4) q2 q3) (free_of x.R mv np) hp
theorem drop_one {ns : List Int} {n : Nat} {p : Int} {l : List Int} (h : ns.drop n = p :: l) : (ns.map V.int)[n]? = some (.int p) ∧ ns.drop (n + 1) = l := by
  constructor
  · have : (ns.drop n)[0]? = some p := by rw [h]; rfl
    rw [List.getElem?_drop] at this
    rw [List.getElem?_map]
    show (ns[n]?).map V.int = _
    have e : ns[n]? = some p := this
    rw [e]
    rfl
  · rw [← List.drop_drop, h]
    rfl
theorem drop_row {ns : List Int} {n : Nat} {x t : List Int} (h : ns.drop n = (x.length : Int) :: (x ++ t)) : (ns.map V.int).drop n = .int (((x.map V.int).length : Nat) : Int) :: (x.map V.int ++ t.map V.int) ∧ ns.drop (n + 1 + (x.map V.int).length) = t := by
  constructor
  · rw [← List.map_drop, h, List.map_cons, List.map_append, List.length_map]
  · rw [List.length_map, ← List.drop_drop, (drop_one h).2, List.drop_left]
abbrev sCall : Stmt := top 55
theorem scCall : FnScope ["house", "reader", "call", "again", "pair"] ["house", "reader"] (defScope sCall) := ⟨rfl, rfl, rfl, by decide +kernel, rfl, by decide +kernel, by decide +kernel⟩
theorem ok_call {f : Addr} {fd : FuncData} (F : Fun K "answer_call" "answer_call" sCall f fd) (T : Txt mg) (XH : HTxt K mg CH) (XR : RTxt K mg CR)
    (MT : Mt P w K mg base CR "take_number" 1 ["self"] (spTake K CR)) (MR : Mt P w K mg base CR "take_row" 2 ["self"] (spRow K CR))
    (M0 : Mt P w K mg base CH "add_file" 4 ["self", "sentences"] (spAdd K CH)) (M1 : Mt P w K mg base CH "drop_file" 1 ["self", "number"] (spDrop K CH)) (M2 : Mt P w K mg base CH "replace_memory" 4 ["self", "sentences"] (spMem K CH))
    (M3 : Mt P w K mg base CH "finish_file" 2 ["self", "number"] (spFin K CH)) (M4 : Mt P w K mg base CH "replace_rates" 4 ["self", "again", "bands"] (spRates K CH))
    (M5 : Mt P w K mg base CH "count_job" 10 ["self", "numbers"] (spCount K CH)) (M6 : Mt P w K mg base CH "tell_kinds" 10 ["self", "numbers"] (spTell K CH)) (M7 : Mt P w K mg base CH "part_files" 12 ["self", "hands"] (spPart K CH))
    (M9 : Mt P w K mg base CH "show" 1 ["self"] (spShow K CH))
    (DS : Df P w K mg base "sentences_of" 1 ["row"] (spSents K)) (DB : Df P w K mg base "bands_of" 1 ["row"] (spBands K)) (DN : Df P w K mg base "answer_near" 3 ["words", "others"] spAnN) :
    FnOk P w K mg base CX0 13 f fd ["house", "reader"] (spCall K CH CR) := by
  refine F.ok scCall (fun vs H Q E h => ?_) (fun cdv A outer s0 H vs Q E hr q => ?_)
  · obtain ⟨h, d, r, a, g, n, s, ns, t, c, rfl, _⟩ := h
    rfl
  · obtain ⟨h, d, r, a, g, n, s, ns, t, c, rfl, O, G, R, Aq, Lg, hrh, hform, hask, k⟩ := q
    obtain ⟨fT, fdT, mT, bT, GT⟩ := MT
    obtain ⟨fR, fdR, mR, bR, GR⟩ := MR
    obtain ⟨f0, fd0, m0, b0, G0⟩ := M0
    obtain ⟨f1, fd1, m1, b1, G1⟩ := M1
    obtain ⟨f2, fd2, m2, b2, G2⟩ := M2
    obtain ⟨f3, fd3, m3, b3, G3⟩ := M3
    obtain ⟨f4, fd4, m4, b4, G4⟩ := M4
    obtain ⟨f5, fd5, m5, b5, G5⟩ := M5
    obtain ⟨f6, fd6, m6, b6, G6⟩ := M6
    obtain ⟨f7, fd7, m7, b7, G7⟩ := M7
    obtain ⟨f9, fd9, m9, b9, G9⟩ := M9
    have hr1 := hr.mono (by decide : 1 ≤ 12)
    have hr2 := hr.mono (by decide : 2 ≤ 12)
    have hr3 := hr.mono (by decide : 3 ≤ 12)
    have hr4 := hr.mono (by decide : 4 ≤ 12)
    have hr10 := hr.mono (by decide : 10 ≤ 12)
    refine ⟨_, pss_cons (ps_set (i := 2) scCall.nd rfl (Or.inl rfl) (pe_meth0 (pv 1) XR.cl mT GT hr1 bT .nil pass0))
      (pss_cons (ps_if (pt_cmpR op_eq (pv 2) (pe_cst T.c0) (nomark _)) (pss_one (ps_ret (pe_meth (pv 0) XH.cl m0 G0 hr4 b0 .nil pass0 (pa_cons (pe_df DS hr1 (pa_cons (pe_meth0 (pv 1) XR.cl mR GR hr2 bR .nil pass0) pa_nil)) pa_nil)))) pss_nil)
      (pss_cons (ps_if (pt_cmpR op_eq (pv 2) (pe_cst T.c1) (nomark _)) (pss_one (ps_ret (pe_meth (pv 0) XH.cl m1 G1 hr1 b1 .nil pass0 (pa_cons (pe_meth0 (pv 1) XR.cl mT GT hr1 bT .nil pass0) pa_nil)))) pss_nil)
      (pss_cons (ps_if (pt_cmpR op_eq (pv 2) (pe_cst T.c2) (nomark _)) (pss_one (ps_ret (pe_meth (pv 0) XH.cl m2 G2 hr4 b2 .nil pass0 (pa_cons (pe_df DS hr1 (pa_cons (pe_meth0 (pv 1) XR.cl mR GR hr2 bR .nil pass0) pa_nil)) pa_nil)))) pss_nil)
      (pss_cons (ps_if (pt_cmpR op_eq (pv 2) (pe_cst T.c3) (nomark _)) (pss_one (ps_ret (pe_meth (pv 0) XH.cl m3 G3 hr2 b3 .nil pass0 (pa_cons (pe_meth0 (pv 1) XR.cl mT GT hr1 bT .nil pass0) pa_nil)))) pss_nil)
      (pss_cons (ps_if (pt_cmpR op_eq (pv 2) (pe_cst T.c4) (nomark _)) (pss_cons (ps_set (i := 3) scCall.nd rfl (Or.inl rfl) (pe_meth0 (pv 1) XR.cl mT GT hr1 bT .nil pass0)) (pss_one (ps_ret (pe_meth (pv 0) XH.cl m4 G4 hr4 b4 .nil pass0 (pa_cons (pv 3) (pa_cons (pe_df DB hr1 (pa_cons (pe_meth0 (pv 1) XR.cl mR GR hr2 bR .nil pass0) pa_nil)) pa_nil)))))) pss_nil)
      (pss_cons (ps_if (pt_cmpR op_eq (pv 2) (pe_cst T.c5) (nomark _)) (pss_one (ps_ret (pe_meth (pv 0) XH.cl m5 G5 hr10 b5 .nil pass0 (pa_cons (pe_meth0 (pv 1) XR.cl mR GR hr2 bR .nil pass0) pa_nil)))) pss_nil)
      (pss_cons (ps_if (pt_cmpR op_eq (pv 2) (pe_cst T.c6) (nomark _)) (pss_one (ps_ret (pe_meth (pv 0) XH.cl m6 G6 hr10 b6 .nil pass0 (pa_cons (pe_meth0 (pv 1) XR.cl mR GR hr2 bR .nil pass0) pa_nil)))) pss_nil)
      (pss_cons (ps_if (pt_cmpR op_eq (pv 2) (pe_cst T.c7) (nomark _)) (pss_one (ps_ret (pe_meth (pv 0) XH.cl m7 G7 hr b7 .nil pass0 (pa_cons (pe_meth0 (pv 1) XR.cl mT GT hr1 bT .nil pass0) pa_nil)))) pss_nil)
      (pss_cons (ps_if (pt_cmpR op_eq (pv 2) (pe_cst T.c8) (nomark _)) (pss_cons (ps_set (i := 4) scCall.nd rfl (Or.inl rfl) (pe_df DS hr1 (pa_cons (pe_meth0 (pv 1) XR.cl mR GR hr2 bR .nil pass0) pa_nil))) (pss_one (ps_ret (pe_df DN hr3 (pa_cons (pe_ix ix_list (pv 4) pe_int (fun _ _ => rfl)) (pa_cons (pe_ix ix_list (pv 4) pe_int (fun _ _ => rfl)) pa_nil)))))) pss_nil)
      (pss_cons (ps_if (pt_cmpR op_eq (pv 2) (pe_cst T.c9) (nomark _)) (pss_one (ps_ret (pe_meth0 (pv 0) XH.cl m9 G9 hr1 b9 .nil pass0))) pss_nil)
      (pss_one ps_never))))))))))), ?_⟩
    have X0 : At K CH CR H h d r a g n s ns := ⟨O, R, Aq, Lg, hrh⟩
    have hfrm := hform
    obtain ⟨dr, hr0⟩ := id R
    generalize hl : ns.drop n = l at hform
    have first : ∀ (p : Int) (l' : List Int), l = p :: l' → (ns.map V.int)[n]? = some (.int p) ∧ ns.drop (n + 1) = l' := fun p l' e => drop_one (hl.trans e)
    cases hform with
    | row p x t hp =>
      obtain ⟨hz, hd1⟩ := first _ _ rfl
      obtain ⟨hdr, hdt⟩ := drop_row hd1
      refine ⟨_, rfl, r, dr, _, rfl, hr0, rF_no (by decide +kernel), r, a, n, _, _, rfl, R, Aq.sq, hz, fun H1 R1 k1 _ => ?_⟩
      have X1 := X0.move R1 k1
      obtain ⟨dr1, hr1'⟩ := id R1
      obtain ⟨dxh, mh, bh, hh1, _⟩ := id X1.O.ob
      rcases hp with rfl | rfl | rfl | rfl | rfl
      · obtain ⟨hU, hlx, ss, hss, hst⟩ := asked_file hask
        have hfl := sents_flat _ _ _ hss
        have hll : (flat ss).length ≤ 1000 := by rw [← hfl, List.length_map]; omega
        have hls := sents_le_flat ss
        refine ⟨_, rfl, rfl, _, rfl, ifY rfl ⟨_, rfl, h, dxh, _, rfl, hh1, hF_no (by decide +kernel), _, rfl, r, dr1, _, rfl, hr1', rF_no (by decide +kernel), r, a, n + 1, _, x.map V.int, t.map V.int, rfl, R1, X1.A.sq, hdr, fun H2 q R2 k2 nq hq => ?_⟩⟩
        have X2 := X1.move R2 k2
        rw [wv_row hU, hfl] at hq
        refine ⟨q, ss, rfl, SqL.of hq, hll, fun H3 p3 xs e3 np3 hp3 hs3 => ?_⟩
        have X3 := X2.same e3
        obtain ⟨o, hg⟩ := X2.L
        have hpg : p3 ≠ g := (ne_of_none hg np3).symm
        refine ⟨h, d, g, p3, s, ss, rfl, X3.O, G, ⟨hpg, xs, hp3, hs3⟩, by omega, call_end X3 (fun b o q1 q2 => e3 _ _ (k2 _ _ (k1 _ _ q1 q2) q2)) hdt hst k⟩
      · obtain ⟨hU, hlx, ss, hss, hst⟩ := asked_memory hask
        have hfl := sents_flat _ _ _ hss
        have hll : (flat ss).length ≤ 1000 := by rw [← hfl, List.length_map]; omega
        have hls := sents_le_flat ss
        refine ⟨_, rfl, rfl, _, rfl, ifN (by decide) ⟨_, rfl, rfl, _, rfl, ifN (by decide) ⟨_, rfl, rfl, _, rfl, ifY rfl ⟨_, rfl, h, dxh, _, rfl, hh1, hF_no (by decide +kernel), _, rfl, r, dr1, _, rfl, hr1', rF_no (by decide +kernel), r, a, n + 1, _, x.map V.int, t.map V.int, rfl, R1, X1.A.sq, hdr, fun H2 q R2 k2 nq hq => ?_⟩⟩⟩⟩
        have X2 := X1.move R2 k2
        rw [wv_row hU, hfl] at hq
        refine ⟨q, ss, rfl, SqL.of hq, hll, fun H3 p3 xs e3 np3 hp3 hs3 => ?_⟩
        have X3 := X2.same e3
        obtain ⟨o, hg⟩ := X2.L
        have hpg : p3 ≠ g := (ne_of_none hg np3).symm
        refine ⟨h, d, g, p3, s, ss, rfl, X3.O, ⟨hpg, xs, hp3, hs3⟩, by omega, call_end X3 (fun b o q1 q2 => e3 _ _ (k2 _ _ (k1 _ _ q1 q2) q2)) hdt hst k⟩
      · obtain ⟨hU, hlx, hst⟩ := asked_count hask
        refine ⟨_, rfl, rfl, _, rfl, ifN (by decide) ⟨_, rfl, rfl, _, rfl, ifN (by decide) ⟨_, rfl, rfl, _, rfl, ifN (by decide) ⟨_, rfl, rfl, _, rfl, ifN (by decide) ⟨_, rfl, rfl, _, rfl, ifN (by decide) ⟨_, rfl, rfl, _, rfl, ifY rfl ⟨_, rfl, h, dxh, _, rfl, hh1, hF_no (by decide +kernel), _, rfl, r, dr1, _, rfl, hr1', rF_no (by decide +kernel), r, a, n + 1, _, x.map V.int, t.map V.int, rfl, R1, X1.A.sq, hdr, fun H2 q R2 k2 nq hq => ?_⟩⟩⟩⟩⟩⟩⟩
        have X2 := X1.move R2 k2
        rw [wv_row hU] at hq
        exact ⟨h, d, g, q, _, s, rfl, X2.O, G, hq, by rw [List.length_map]; exact hlx, call_end X2 (fun b o q1 q2 => k2 _ _ (k1 _ _ q1 q2) q2) hdt hst k⟩
      · obtain ⟨hU, hlx, hst⟩ := asked_kinds hask
        refine ⟨_, rfl, rfl, _, rfl, ifN (by decide) ⟨_, rfl, rfl, _, rfl, ifN (by decide) ⟨_, rfl, rfl, _, rfl, ifN (by decide) ⟨_, rfl, rfl, _, rfl, ifN (by decide) ⟨_, rfl, rfl, _, rfl, ifN (by decide) ⟨_, rfl, rfl, _, rfl, ifN (by decide) ⟨_, rfl, rfl, _, rfl, ifY rfl ⟨_, rfl, h, dxh, _, rfl, hh1, hF_no (by decide +kernel), _, rfl, r, dr1, _, rfl, hr1', rF_no (by decide +kernel), r, a, n + 1, _, x.map V.int, t.map V.int, rfl, R1, X1.A.sq, hdr, fun H2 q R2 k2 nq hq => ?_⟩⟩⟩⟩⟩⟩⟩⟩
        have X2 := X1.move R2 k2
        rw [wv_row hU] at hq
        exact ⟨h, d, g, q, _, s, rfl, X2.O, G, hq, by rw [List.length_map]; exact hlx, call_end X2 (fun b o q1 q2 => k2 _ _ (k1 _ _ q1 q2) q2) hdt hst k⟩
      · obtain ⟨hU, hlx, u, v, hss, hst⟩ := asked_near hask
        have hfl := sents_flat _ _ _ hss
        have hll : (flat [u, v]).length ≤ 1000 := by rw [← hfl, List.length_map]; omega
        refine ⟨_, rfl, rfl, _, rfl, ifN (by decide) ⟨_, rfl, rfl, _, rfl, ifN (by decide) ⟨_, rfl, rfl, _, rfl, ifN (by decide) ⟨_, rfl, rfl, _, rfl, ifN (by decide) ⟨_, rfl, rfl, _, rfl, ifN (by decide) ⟨_, rfl, rfl, _, rfl, ifN (by decide) ⟨_, rfl, rfl, _, rfl, ifN (by decide) ⟨_, rfl, rfl, _, rfl, ifN (by decide) ⟨_, rfl, rfl, _, rfl, ifY rfl ⟨_, rfl, r, dr1, _, rfl, hr1', rF_no (by decide +kernel), r, a, n + 1, _, x.map V.int, t.map V.int, rfl, R1, X1.A.sq, hdr, fun H2 q R2 k2 nq hq => ?_⟩⟩⟩⟩⟩⟩⟩⟩⟩⟩
        have X2 := X1.move R2 k2
        rw [wv_row hU, hfl] at hq
        refine ⟨q, [u, v], rfl, SqL.of hq, hll, fun H3 p3 xs e3 np3 hp3 hs3 => ?_⟩
        have X3 := X2.same e3
        obtain ⟨v0, hv0, sv0⟩ := hs3.at (i := 0) (s := u) rfl
        obtain ⟨v1, hv1, sv1⟩ := hs3.at (i := 1) (s := v) rfl
        refine ⟨_, rfl, p3, _, _, _, rfl, rfl, SqL.of hp3, atZ hv0 rfl, _, rfl, p3, _, _, _, rfl, rfl, SqL.of hp3, atZ hv1 rfl, v0, v1, u, v, rfl, sv0, sv1, fun H4 p4 e4 np4 hp4 => ?_⟩
        have X4 := X3.same e4
        have kk := call_end X3 (fun b o q1 q2 => e3 _ _ (k2 _ _ (k1 _ _ q1 q2) q2)) hdt hst k
        rw [near_step] at kk
        exact kk.keep X3.O e4 np4 hp4
    | num p z t hp =>
      obtain ⟨hz, hd1⟩ := first _ _ rfl
      obtain ⟨hz2, hdt⟩ := drop_one hd1
      refine ⟨_, rfl, r, dr, _, rfl, hr0, rF_no (by decide +kernel), r, a, n, _, _, rfl, R, Aq.sq, hz, fun H1 R1 k1 _ => ?_⟩
      have X1 := X0.move R1 k1
      obtain ⟨dr1, hr1'⟩ := id R1
      obtain ⟨dxh, mh, bh, hh1, _⟩ := id X1.O.ob
      rcases hp with rfl | rfl | rfl
      · obtain ⟨hU, hst⟩ := asked_gone hask
        obtain ⟨m, rfl⟩ : ∃ m : Nat, z = (m : Int) := ⟨z.toNat, (toNat_cast hU).symm⟩
        refine ⟨_, rfl, rfl, _, rfl, ifN (by decide) ⟨_, rfl, rfl, _, rfl, ifY rfl ⟨_, rfl, h, dxh, _, rfl, hh1, hF_no (by decide +kernel), _, rfl, r, dr1, _, rfl, hr1', rF_no (by decide +kernel), r, a, n + 1, _, _, rfl, R1, X1.A.sq, hz2, fun H2 R2 k2 _ => ?_⟩⟩⟩
        have X2 := X1.move R2 k2
        exact ⟨h, d, g, m, s, rfl, X2.O, call_end X2 (fun b o q1 q2 => k2 _ _ (k1 _ _ q1 q2) q2) hdt hst k⟩
      · obtain ⟨hU, hst⟩ := asked_done hask
        obtain ⟨m, rfl⟩ : ∃ m : Nat, z = (m : Int) := ⟨z.toNat, (toNat_cast hU).symm⟩
        refine ⟨_, rfl, rfl, _, rfl, ifN (by decide) ⟨_, rfl, rfl, _, rfl, ifN (by decide) ⟨_, rfl, rfl, _, rfl, ifN (by decide) ⟨_, rfl, rfl, _, rfl, ifY rfl ⟨_, rfl, h, dxh, _, rfl, hh1, hF_no (by decide +kernel), _, rfl, r, dr1, _, rfl, hr1', rF_no (by decide +kernel), r, a, n + 1, _, _, rfl, R1, X1.A.sq, hz2, fun H2 R2 k2 _ => ?_⟩⟩⟩⟩⟩
        have X2 := X1.move R2 k2
        obtain ⟨o, hg⟩ := X2.L
        exact ⟨h, d, g, m, s, rfl, X2.O, G, ⟨_, hg⟩, call_end X2 (fun b o q1 q2 => k2 _ _ (k1 _ _ q1 q2) q2) hdt hst k⟩
      · obtain ⟨hU, hst⟩ := asked_part hask
        obtain ⟨m, rfl⟩ : ∃ m : Nat, z = (m : Int) := ⟨z.toNat, (toNat_cast hU).symm⟩
        refine ⟨_, rfl, rfl, _, rfl, ifN (by decide) ⟨_, rfl, rfl, _, rfl, ifN (by decide) ⟨_, rfl, rfl, _, rfl, ifN (by decide) ⟨_, rfl, rfl, _, rfl, ifN (by decide) ⟨_, rfl, rfl, _, rfl, ifN (by decide) ⟨_, rfl, rfl, _, rfl, ifN (by decide) ⟨_, rfl, rfl, _, rfl, ifN (by decide) ⟨_, rfl, rfl, _, rfl, ifY rfl ⟨_, rfl, h, dxh, _, rfl, hh1, hF_no (by decide +kernel), _, rfl, r, dr1, _, rfl, hr1', rF_no (by decide +kernel), r, a, n + 1, _, _, rfl, R1, X1.A.sq, hz2, fun H2 R2 k2 _ => ?_⟩⟩⟩⟩⟩⟩⟩⟩⟩
        have X2 := X1.move R2 k2
        exact ⟨h, d, g, m, s, rfl, X2.O, G, call_end X2 (fun b o q1 q2 => k2 _ _ (k1 _ _ q1 q2) q2) hdt hst k⟩
    | rates z x t =>
      obtain ⟨hz, hd1⟩ := first _ _ rfl
      obtain ⟨hz2, hd2⟩ := drop_one hd1
      obtain ⟨hdr, hdt⟩ := drop_row hd2
      obtain ⟨hU, hUx, hlx, bs, hbs, hst⟩ := asked_rates hask
      obtain ⟨m, rfl⟩ : ∃ m : Nat, z = (m : Int) := ⟨z.toNat, (toNat_cast hU).symm⟩
      have hfl := pairs_flat _ _ hbs
      have hll : bs.length ≤ 1000 := by
        have h1 := congrArg List.length hfl
        rw [flat2_length, List.length_map] at h1
        omega
      refine ⟨_, rfl, r, dr, _, rfl, hr0, rF_no (by decide +kernel), r, a, n, _, _, rfl, R, Aq.sq, hz, fun H1 R1 k1 _ => ?_⟩
      have X1 := X0.move R1 k1
      obtain ⟨dr1, hr1'⟩ := id R1
      refine ⟨_, rfl, rfl, _, rfl, ifN (by decide) ⟨_, rfl, rfl, _, rfl, ifN (by decide) ⟨_, rfl, rfl, _, rfl, ifN (by decide) ⟨_, rfl, rfl, _, rfl, ifN (by decide) ⟨_, rfl, rfl, _, rfl, ifY rfl ⟨_, rfl, r, dr1, _, rfl, hr1', rF_no (by decide +kernel), r, a, n + 1, _, _, rfl, R1, X1.A.sq, hz2, fun H2 R2 k2 _ => ?_⟩⟩⟩⟩⟩⟩
      have X2 := X1.move R2 k2
      obtain ⟨dr2, hr2'⟩ := id R2
      obtain ⟨dxh, mh, bh, hh2, _⟩ := id X2.O.ob
      refine ⟨_, rfl, h, dxh, _, rfl, hh2, hF_no (by decide +kernel), _, rfl, _, rfl, r, dr2, _, rfl, hr2', rF_no (by decide +kernel), r, a, n + 1 + 1, _, x.map V.int, t.map V.int, rfl, R2, X2.A.sq, hdr, fun H3 q R3 k3 nq hq => ?_⟩
      have X3 := X2.move R3 k3
      rw [wv_row hUx, hfl] at hq
      refine ⟨q, bs, rfl, SqL.of hq, hll, fun H4 p4 xs e4 np4 hp4 hb4 => ?_⟩
      have X4 := X3.same e4
      obtain ⟨o, hg⟩ := X3.L
      exact ⟨h, d, g, p4, m, s, bs, rfl, X4.O, ⟨(ne_of_none hg np4).symm, xs, hp4, hb4⟩, hll, call_end X4 (fun b o q1 q2 => e4 _ _ (k3 _ _ (k2 _ _ (k1 _ _ q1 q2) q2) q2)) hdt hst k⟩
    | shows t =>
      obtain ⟨hz, hdt⟩ := first _ _ rfl
      refine ⟨_, rfl, r, dr, _, rfl, hr0, rF_no (by decide +kernel), r, a, n, _, _, rfl, R, Aq.sq, hz, fun H1 R1 k1 _ => ?_⟩
      have X1 := X0.move R1 k1
      obtain ⟨dxh, mh, bh, hh1, _⟩ := id X1.O.ob
      exact ⟨_, rfl, rfl, _, rfl, ifN (by decide) ⟨_, rfl, rfl, _, rfl, ifN (by decide) ⟨_, rfl, rfl, _, rfl, ifN (by decide) ⟨_, rfl, rfl, _, rfl, ifN (by decide) ⟨_, rfl, rfl, _, rfl, ifN (by decide) ⟨_, rfl, rfl, _, rfl, ifN (by decide) ⟨_, rfl, rfl, _, rfl, ifN (by decide) ⟨_, rfl, rfl, _, rfl, ifN (by decide) ⟨_, rfl, rfl, _, rfl, ifN (by decide) ⟨_, rfl, rfl, _, rfl, ifY rfl ⟨_, rfl, h, dxh, _, rfl, hh1, hF_no (by decide +kernel), h, d, g, s, rfl, X1.O, G, call_end X1 k1 hdt asked_shows k⟩⟩⟩⟩⟩⟩⟩⟩⟩⟩⟩
end
end Wc

namespace Wc
open PySem PySem.Spec PyProof.Rows L2
theorem MethIn.mt {P : Program} {w : World} {K : PySem.W.Frag} {mg : Str → Option Value} {base : Heap} {C : Addr} {x qual : Str} {st : Stmt} {k : Nat} {ps : List Str} {sp : Sp} (d : MethIn K C x qual st) (hb : BindsBy x qual st ps) (ok : ∀ (f : Addr) (fd : FuncData), Fun K x qual st f fd → FnOk P w K mg base CX0 k f fd ps sp) : Mt P w K mg base C x k ps sp := by
  obtain ⟨f, fd, m, F, b⟩ := d.get hb
  exact ⟨f, fd, m, b, ok f fd F⟩
theorem all_mk {P : Program} {w : World} {K : PySem.W.Frag} {h : Heap} {mg : Str → Option Value} {fa CH CR : Addr} (X : K.In h) (G : h.Ns mainGlobals mg) (hfa : mg "answers" = some (.ref fa))
    (b_len : PySem.W.nsIn K mainGlobals "len" = some none)
    (b_max : PySem.W.nsIn K mainGlobals "max" = some none)
    (b_all : PySem.W.nsIn K mainGlobals "all" = some none)
    (b_sum : PySem.W.nsIn K mainGlobals "sum" = some none)
    (b_list : PySem.W.nsIn K mainGlobals "list" = some none)
    (b_tuple : PySem.W.nsIn K mainGlobals "tuple" = some none)
    (b_range : PySem.W.nsIn K mainGlobals "range" = some none)
    (b_min : PySem.W.nsIn K mainGlobals "min" = some none)
    (b_set : PySem.W.nsIn K mainGlobals "set" = some none)
    (b_sorted : PySem.W.nsIn K mainGlobals "sorted" = some none)
    (n_WRONG : NumIn K "WRONG" (-1))
    (n_NO_SUCH_FILE : NumIn K "NO_SUCH_FILE" (-2))
    (n_FULL : NumIn K "FULL" (-5))
    (n_MOST_WORDS : NumIn K "MOST_WORDS" 10)
    (n_GREATEST_WORD : NumIn K "GREATEST_WORD" 999)
    (n_MOST_FILES : NumIn K "MOST_FILES" 6)
    (n_MOST_FILE_SENTENCES : NumIn K "MOST_FILE_SENTENCES" 8)
    (n_MOST_MEMORY_SENTENCES : NumIn K "MOST_MEMORY_SENTENCES" 20)
    (n_MOST_BANDS : NumIn K "MOST_BANDS" 4)
    (n_GREATEST_RATE : NumIn K "GREATEST_RATE" 100)
    (n_FIRST_AGAIN : NumIn K "FIRST_AGAIN" 20)
    (n_MOST_HANDS : NumIn K "MOST_HANDS" 4)
    (n_REPEATED : NumIn K "REPEATED" 0)
    (n_PAID_NEW : NumIn K "PAID_NEW" 100)
    (n_NEAR_NONE : NumIn K "NEAR_NONE" (-1))
    (n_FILE : NumIn K "FILE" 0)
    (n_GONE : NumIn K "GONE" 1)
    (n_MEMORY : NumIn K "MEMORY" 2)
    (n_DONE : NumIn K "DONE" 3)
    (n_RATES : NumIn K "RATES" 4)
    (n_COUNT : NumIn K "COUNT" 5)
    (n_KINDS : NumIn K "KINDS" 6)
    (n_PART : NumIn K "PART" 7)
    (n_NEAR : NumIn K "NEAR" 8)
    (n_SHOWS : NumIn K "SHOWS" 9)
    (t_bands : ∃ t0 t1 t2 : Addr, PySem.W.nsIn K mainGlobals "FIRST_BANDS" = some (some (.ref t0)) ∧ SqT K (fun _ => none) t0 [.ref t1, .ref t2] ∧ SqT K (fun _ => none) t1 (bv (100, 10)) ∧ SqT K (fun _ => none) t2 (bv (75, 60)))
    (d_is_right_sentence : DefIn K "is_right_sentence" sRightS)
    (d_are_right_sentences : DefIn K "are_right_sentences" sRightSs)
    (d_count_words : DefIn K "count_words" sWords)
    (d_fewest_changes : DefIn K "fewest_changes" sFew)
    (d_how_near : DefIn K "how_near" sNear)
    (d_nearest : DefIn K "nearest" sNst)
    (d_kind_of : DefIn K "kind_of" sKind)
    (d_kinds_of : DefIn K "kinds_of" sKinds)
    (d_words_by_kind : DefIn K "words_by_kind" sWbk)
    (d_weight_of : DefIn K "weight_of" sWt)
    (d_is_right_band : DefIn K "is_right_band" sRightB)
    (d_are_falling : DefIn K "are_falling" sFalling)
    (d_are_right_bands : DefIn K "are_right_bands" sRightBs)
    (d_with_unknown : DefIn K "with_unknown" sGrow)
    (d_answer_near : DefIn K "answer_near" sAnN)
    (d_all_deals : DefIn K "all_deals" sDeals)
    (d_loads_of : DefIn K "loads_of" sLoads)
    (d_is_better : DefIn K "is_better" sBet)
    (d_best_deal : DefIn K "best_deal" sBest)
    (d_sentences_of : DefIn K "sentences_of" sSents)
    (d_bands_of : DefIn K "bands_of" sBands)
    (d_answer_call : DefIn K "answer_call" sCall)
    (d_answers : DefIn K "answers" sAns)
    (cH : ClsIn K "House" CH)
    (a_files : PySem.W.findIn K (.ref CH) "files" = some none)
    (a_next_number : PySem.W.findIn K (.ref CH) "next_number" = some none)
    (a_memory : PySem.W.findIn K (.ref CH) "memory" = some none)
    (a_again : PySem.W.findIn K (.ref CH) "again" = some none)
    (a_bands : PySem.W.findIn K (.ref CH) "bands" = some none)
    (cR : ClsIn K "CallReader" CR)
    (a_numbers : PySem.W.findIn K (.ref CR) "numbers" = some none)
    (a_place : PySem.W.findIn K (.ref CR) "place" = some none)
    (m_hinit : MethIn K CH "__init__" "House.__init__" sHInit)
    (m_rinit : MethIn K CR "__init__" "CallReader.__init__" sRInit)
    (m_has_more : MethIn K CR "has_more" "CallReader.has_more" sMore)
    (m_take_number : MethIn K CR "take_number" "CallReader.take_number" sTake)
    (m_take_row : MethIn K CR "take_row" "CallReader.take_row" sRow)
    (m_add_file : MethIn K CH "add_file" "House.add_file" sAdd)
    (m_drop_file : MethIn K CH "drop_file" "House.drop_file" sDrop)
    (m_replace_memory : MethIn K CH "replace_memory" "House.replace_memory" sMem)
    (m_finish_file : MethIn K CH "finish_file" "House.finish_file" sFin)
    (m_replace_rates : MethIn K CH "replace_rates" "House.replace_rates" sRates)
    (m_has_job : MethIn K CH "has_job" "House.has_job" sHas)
    (m_job_of : MethIn K CH "job_of" "House.job_of" sJob)
    (m_count_by_kind : MethIn K CH "count_by_kind" "House.count_by_kind" sCbk)
    (m_weigh : MethIn K CH "weigh" "House.weigh" sWgh)
    (m_count_job : MethIn K CH "count_job" "House.count_job" sCount)
    (m_tell_kinds : MethIn K CH "tell_kinds" "House.tell_kinds" sTell)
    (m_part_files : MethIn K CH "part_files" "House.part_files" sPart)
    (m_show : MethIn K CH "show" "House.show" sShow) :
    ∃ fd : FuncData, (∀ (s : Shared) (us : List Value), us.length = (["calls"] : List Str).length → BindsTo s fd ⟨us, []⟩ ((["calls"] : List Str).zip us)) ∧ ∀ base : Heap, K.In base → base.Ns mainGlobals mg → FnOk P w K mg base CX0 14 fa fd ["calls"] (spAns K) := by
  obtain ⟨f, oc, od, kV, dc, pm, an, cd, ct, sl, a, l, c, kp⟩ := d_answers
  have e := hfa.symm.trans (PySem.W.mg_of X G a)
  cases e
  have F := fun_mk (st := sAns) l c kp
  refine ⟨PySem.W.fnOf "answers" "answers" (defArgs sAns) (defBody sAns) (defScope sAns) .none kV dc pm an cd ct, fun s us hu => ?_, fun base _ _ => ?_⟩
  · exact match us, hu with | [_], _ => .of_eq rfl
  have T : Txt mg := { len := PySem.W.mg_none_of X G b_len, max := PySem.W.mg_none_of X G b_max, all := PySem.W.mg_none_of X G b_all, sum := PySem.W.mg_none_of X G b_sum, list := PySem.W.mg_none_of X G b_list, tuple := PySem.W.mg_none_of X G b_tuple, range := PySem.W.mg_none_of X G b_range, min := PySem.W.mg_none_of X G b_min, set := PySem.W.mg_none_of X G b_set, sorted := PySem.W.mg_none_of X G b_sorted, cWrong := n_WRONG.cst X G, cNo := n_NO_SUCH_FILE.cst X G, cFull := n_FULL.cst X G, cWords := n_MOST_WORDS.cst X G, cWord := n_GREATEST_WORD.cst X G, cFiles := n_MOST_FILES.cst X G, cFileS := n_MOST_FILE_SENTENCES.cst X G, cMemS := n_MOST_MEMORY_SENTENCES.cst X G, cBands := n_MOST_BANDS.cst X G, cRate := n_GREATEST_RATE.cst X G, cAgain := n_FIRST_AGAIN.cst X G, cHands := n_MOST_HANDS.cst X G, cRep := n_REPEATED.cst X G, cNew := n_PAID_NEW.cst X G, cNone := n_NEAR_NONE.cst X G, c0 := n_FILE.cst X G, c1 := n_GONE.cst X G, c2 := n_MEMORY.cst X G, c3 := n_DONE.cst X G, c4 := n_RATES.cst X G, c5 := n_COUNT.cst X G, c6 := n_KINDS.cst X G, c7 := n_PART.cst X G, c8 := n_NEAR.cst X G, c9 := n_SHOWS.cst X G }
  have XH : HTxt K mg CH := ⟨cH.cls, a_files, a_next_number, a_memory, a_again, a_bands, PySem.W.mg_of X G cH.a⟩
  have XR : RTxt K mg CR := ⟨cR.cls, a_numbers, a_place, PySem.W.mg_of X G cR.a⟩
  have B : FB K mg := by
    obtain ⟨t0, t1, t2, a0, w0, w1, w2⟩ := t_bands
    exact ⟨t0, t1, t2, ⟨_, PySem.W.mg_of X G a0, rfl⟩, w0, w1, w2⟩
  have D_is_right_sentence : Df P w K mg base "is_right_sentence" 1 ["words"] spRightS := d_is_right_sentence.df X G (fun _ _ _ _ _ _ us hl => match us, hl with | [_], _ => rfl) fun _ _ F => ok_rightS F T
  have D_are_right_sentences : Df P w K mg base "are_right_sentences" 3 ["sentences", "most"] spRightSs := d_are_right_sentences.df X G (fun _ _ _ _ _ _ us hl => match us, hl with | [_, _], _ => rfl) fun _ _ F => ok_rightSs F T D_is_right_sentence
  have D_count_words : Df P w K mg base "count_words" 1 ["sentences"] spWords := d_count_words.df X G (fun _ _ _ _ _ _ us hl => match us, hl with | [_], _ => rfl) fun _ _ F => ok_words F T
  have D_fewest_changes : Df P w K mg base "fewest_changes" 1 ["words", "others"] spFew := d_fewest_changes.df X G (fun _ _ _ _ _ _ us hl => match us, hl with | [_, _], _ => rfl) fun _ _ F => ok_few F T
  have D_how_near : Df P w K mg base "how_near" 2 ["words", "others"] spNear := d_how_near.df X G (fun _ _ _ _ _ _ us hl => match us, hl with | [_, _], _ => rfl) fun _ _ F => ok_near F T D_fewest_changes
  have D_nearest : Df P w K mg base "nearest" 4 ["words", "sentences"] spNst := d_nearest.df X G (fun _ _ _ _ _ _ us hl => match us, hl with | [_, _], _ => rfl) fun _ _ F => ok_nst F T D_how_near
  have D_kind_of : Df P w K mg base "kind_of" 5 ["words", "ahead", "memory", "bands"] (spKind K) := d_kind_of.df X G (fun _ _ _ _ _ _ us hl => match us, hl with | [_, _, _, _], _ => rfl) fun _ _ F => ok_kind F T D_nearest
  have D_kinds_of : Df P w K mg base "kinds_of" 7 ["sentences", "memory", "bands"] (spKinds K) := d_kinds_of.df X G (fun _ _ _ _ _ _ us hl => match us, hl with | [_, _, _], _ => rfl) fun _ _ F => ok_kinds F T D_kind_of
  have D_words_by_kind : Df P w K mg base "words_by_kind" 8 ["sentences", "memory", "bands"] (spWbk K) := d_words_by_kind.df X G (fun _ _ _ _ _ _ us hl => match us, hl with | [_, _, _], _ => rfl) fun _ _ F => ok_wbk F T D_kinds_of
  have D_weight_of : Df P w K mg base "weight_of" 1 ["counted", "again", "bands"] (spWt K) := d_weight_of.df X G (fun _ _ _ _ _ _ us hl => match us, hl with | [_, _, _], _ => rfl) fun _ _ F => ok_wt F T
  have D_is_right_band : Df P w K mg base "is_right_band" 1 ["band"] (spRightB K) := d_is_right_band.df X G (fun _ _ _ _ _ _ us hl => match us, hl with | [_], _ => rfl) fun _ _ F => ok_rightB F T
  have D_are_falling : Df P w K mg base "are_falling" 1 ["bands"] (spFalling K) := d_are_falling.df X G (fun _ _ _ _ _ _ us hl => match us, hl with | [_], _ => rfl) fun _ _ F => ok_falling F T
  have D_are_right_bands : Df P w K mg base "are_right_bands" 3 ["bands"] (spRightBs K) := d_are_right_bands.df X G (fun _ _ _ _ _ _ us hl => match us, hl with | [_], _ => rfl) fun _ _ F => ok_rightBs F T D_is_right_band D_are_falling
  have D_with_unknown : Df P w K mg base "with_unknown" 1 ["memory", "sentences"] spGrow := d_with_unknown.df X G (fun _ _ _ _ _ _ us hl => match us, hl with | [_, _], _ => rfl) fun _ _ F => ok_grow F T
  have D_answer_near : Df P w K mg base "answer_near" 3 ["words", "others"] spAnN := d_answer_near.df X G (fun _ _ _ _ _ _ us hl => match us, hl with | [_, _], _ => rfl) fun _ _ F => ok_ann F T D_is_right_sentence D_how_near
  have D_all_deals : Df P w K mg base "all_deals" 1 ["how_many", "hands"] spDeals := d_all_deals.df X G (fun _ _ _ _ _ _ us hl => match us, hl with | [_, _], _ => rfl) fun _ _ F => ok_deals F T
  have D_loads_of : Df P w K mg base "loads_of" 1 ["deal", "weights", "hands"] spLoads := d_loads_of.df X G (fun _ _ _ _ _ _ us hl => match us, hl with | [_, _, _], _ => rfl) fun _ _ F => ok_loads F T
  have D_is_better : Df P w K mg base "is_better" 1 ["loads", "others"] spBet := d_is_better.df X G (fun _ _ _ _ _ _ us hl => match us, hl with | [_, _], _ => rfl) fun _ _ F => ok_bet F T
  have D_best_deal : Df P w K mg base "best_deal" 2 ["weights", "hands"] spBest := d_best_deal.df X G (fun _ _ _ _ _ _ us hl => match us, hl with | [_, _], _ => rfl) fun _ _ F => ok_best F T D_all_deals D_loads_of D_is_better
  have D_sentences_of : Df P w K mg base "sentences_of" 1 ["row"] (spSents K) := d_sentences_of.df X G (fun _ _ _ _ _ _ us hl => match us, hl with | [_], _ => rfl) fun _ _ F => ok_sents F T
  have D_bands_of : Df P w K mg base "bands_of" 1 ["row"] (spBands K) := d_bands_of.df X G (fun _ _ _ _ _ _ us hl => match us, hl with | [_], _ => rfl) fun _ _ F => ok_bands F T
  have M_has_more : Mt P w K mg base CR "has_more" 1 ["self"] (spMore K CR) := m_has_more.mt (fun _ _ _ _ _ _ us hl => match us, hl with | [_], _ => rfl) fun _ _ F => ok_more F T XR
  have M_take_number : Mt P w K mg base CR "take_number" 1 ["self"] (spTake K CR) := m_take_number.mt (fun _ _ _ _ _ _ us hl => match us, hl with | [_], _ => rfl) fun _ _ F => ok_take F XR
  have M_take_row : Mt P w K mg base CR "take_row" 2 ["self"] (spRow K CR) := by
    obtain ⟨_, _, mT, bT, GT⟩ := M_take_number
    exact m_take_row.mt (fun _ _ _ _ _ _ us hl => match us, hl with | [_], _ => rfl) fun _ _ F => ok_row F XR mT bT GT
  have M_add_file : Mt P w K mg base CH "add_file" 4 ["self", "sentences"] (spAdd K CH) := m_add_file.mt (fun _ _ _ _ _ _ us hl => match us, hl with | [_, _], _ => rfl) fun _ _ F => ok_add F T XH D_are_right_sentences D_count_words
  have M_drop_file : Mt P w K mg base CH "drop_file" 1 ["self", "number"] (spDrop K CH) := m_drop_file.mt (fun _ _ _ _ _ _ us hl => match us, hl with | [_, _], _ => rfl) fun _ _ F => ok_drop F T XH
  have M_replace_memory : Mt P w K mg base CH "replace_memory" 4 ["self", "sentences"] (spMem K CH) := m_replace_memory.mt (fun _ _ _ _ _ _ us hl => match us, hl with | [_, _], _ => rfl) fun _ _ F => ok_mem F T XH D_are_right_sentences
  have M_finish_file : Mt P w K mg base CH "finish_file" 2 ["self", "number"] (spFin K CH) := m_finish_file.mt (fun _ _ _ _ _ _ us hl => match us, hl with | [_, _], _ => rfl) fun _ _ F => ok_fin F T XH D_with_unknown
  have M_replace_rates : Mt P w K mg base CH "replace_rates" 4 ["self", "again", "bands"] (spRates K CH) := m_replace_rates.mt (fun _ _ _ _ _ _ us hl => match us, hl with | [_, _, _], _ => rfl) fun _ _ F => ok_rates F T XH D_are_right_bands
  have M_has_job : Mt P w K mg base CH "has_job" 1 ["self", "numbers"] (spHas K CH) := m_has_job.mt (fun _ _ _ _ _ _ us hl => match us, hl with | [_, _], _ => rfl) fun _ _ F => ok_has F T XH
  have M_job_of : Mt P w K mg base CH "job_of" 1 ["self", "numbers"] (spJob K CH) := m_job_of.mt (fun _ _ _ _ _ _ us hl => match us, hl with | [_, _], _ => rfl) fun _ _ F => ok_job F T XH
  have M_count_by_kind : Mt P w K mg base CH "count_by_kind" 9 ["self", "sentences"] (spCbk K CH) := m_count_by_kind.mt (fun _ _ _ _ _ _ us hl => match us, hl with | [_, _], _ => rfl) fun _ _ F => ok_cbk F XH D_words_by_kind
  have M_weigh : Mt P w K mg base CH "weigh" 10 ["self", "sentences"] (spWgh K CH) := by
    obtain ⟨_, _, mC, bC, GC⟩ := M_count_by_kind
    exact m_weigh.mt (fun _ _ _ _ _ _ us hl => match us, hl with | [_, _], _ => rfl) fun _ _ F => ok_wgh F XH mC bC GC D_weight_of
  have M_count_job : Mt P w K mg base CH "count_job" 10 ["self", "numbers"] (spCount K CH) := by
    obtain ⟨_, _, mH, bH, GH⟩ := M_has_job
    obtain ⟨_, _, mJ, bJ, GJ⟩ := M_job_of
    obtain ⟨_, _, mC, bC, GC⟩ := M_count_by_kind
    exact m_count_job.mt (fun _ _ _ _ _ _ us hl => match us, hl with | [_, _], _ => rfl) fun _ _ F => ok_count F T XH mH bH GH mJ bJ GJ mC bC GC D_weight_of
  have M_tell_kinds : Mt P w K mg base CH "tell_kinds" 10 ["self", "numbers"] (spTell K CH) := by
    obtain ⟨_, _, mH, bH, GH⟩ := M_has_job
    obtain ⟨_, _, mJ, bJ, GJ⟩ := M_job_of
    exact m_tell_kinds.mt (fun _ _ _ _ _ _ us hl => match us, hl with | [_, _], _ => rfl) fun _ _ F => ok_tell F T XH mH bH GH mJ bJ GJ D_kinds_of
  have M_part_files : Mt P w K mg base CH "part_files" 12 ["self", "hands"] (spPart K CH) := by
    obtain ⟨_, _, mW, bW, GW⟩ := M_weigh
    exact m_part_files.mt (fun _ _ _ _ _ _ us hl => match us, hl with | [_, _], _ => rfl) fun _ _ F => ok_part F T XH mW bW GW D_best_deal D_loads_of
  have M_show : Mt P w K mg base CH "show" 1 ["self"] (spShow K CH) := m_show.mt (fun _ _ _ _ _ _ us hl => match us, hl with | [_], _ => rfl) fun _ _ F => ok_show F T XH
  have D_answer_call : Df P w K mg base "answer_call" 13 ["house", "reader"] (spCall K CH CR) := d_answer_call.df X G (fun _ _ _ _ _ _ us hl => match us, hl with | [_, _], _ => rfl) fun _ _ F => ok_call F T XH XR M_take_number M_take_row M_add_file M_drop_file M_replace_memory M_finish_file M_replace_rates M_count_job M_tell_kinds M_part_files M_show D_sentences_of D_bands_of D_answer_near
  obtain ⟨fI, fdI, mI, FI, bI⟩ := m_hinit.get (ps := ["self"]) (fun _ _ _ _ _ _ us hl => match us, hl with | [_], _ => rfl)
  obtain ⟨fJ, fdJ, mJ, FJ, bJ⟩ := m_rinit.get (ps := ["self", "numbers"]) (fun _ _ _ _ _ _ us hl => match us, hl with | [_, _], _ => rfl)
  obtain ⟨fM, fdM, mM, bM, GM⟩ := M_has_more
  exact ok_ans F T XH XR (cH.mk' mI) bI (ok_hinit FI T XH B) (cR.mk' mJ) bJ (ok_rinit FJ XR) mM bM GM D_answer_call (by decide)
end Wc

open PySem PySem.W PyProof.Rows
set_option maxRecDepth 100000 in
set_option maxHeartbeats 8000000 in
theorem PySem.Challenge.cw_wordcounts_s01_answers_holds : PySem.Challenge.rw_wordcounts_s01_answers.Holds := by
  w_on; k_headS; (case hw => exact ⟨[.list [.int 9]], by decide +kernel, by decide +kernel⟩)
  k_fillS
  refine L2.walk_specK (r := PySem.Challenge.rw_wordcounts_s01_answers) (k := 14) (CX := L2.CX0) (ps := ["calls"]) (sp := Wc.spAns) (by decide +kernel) rfl rfl ⟨rfl, by decide, by decide⟩ (fun w h Y => PySem.W.kIn_of Y) ?F ?S (fun _ _ _ _ z => z)
  case F =>
    intro w mg fa h Y KX G hmg
    clear Y
    refine' Wc.all_mk KX G hmg ?b_len ?b_max ?b_all ?b_sum ?b_list ?b_tuple ?b_range ?b_min ?b_set ?b_sorted ?n_WRONG ?n_NO_SUCH_FILE ?n_FULL ?n_MOST_WORDS ?n_GREATEST_WORD ?n_MOST_FILES ?n_MOST_FILE_SENTENCES ?n_MOST_MEMORY_SENTENCES ?n_MOST_BANDS ?n_GREATEST_RATE ?n_FIRST_AGAIN ?n_MOST_HANDS ?n_REPEATED ?n_PAID_NEW ?n_NEAR_NONE ?n_FILE ?n_GONE ?n_MEMORY ?n_DONE ?n_RATES ?n_COUNT ?n_KINDS ?n_PART ?n_NEAR ?n_SHOWS ?t_bands ?d_is_right_sentence ?d_are_right_sentences ?d_count_words ?d_fewest_changes ?d_how_near ?d_nearest ?d_kind_of ?d_kinds_of ?d_words_by_kind ?d_weight_of ?d_is_right_band ?d_are_falling ?d_are_right_bands ?d_with_unknown ?d_answer_near ?d_all_deals ?d_loads_of ?d_is_better ?d_best_deal ?d_sentences_of ?d_bands_of ?d_answer_call ?d_answers ?cH ?a_files ?a_next_number ?a_memory ?a_again ?a_bands ?cR ?a_numbers ?a_place ?m_hinit ?m_rinit ?m_has_more ?m_take_number ?m_take_row ?m_add_file ?m_drop_file ?m_replace_memory ?m_finish_file ?m_replace_rates ?m_has_job ?m_job_of ?m_count_by_kind ?m_weigh ?m_count_job ?m_tell_kinds ?m_part_files ?m_show
    (case b_len => k_is)
    (case b_max => k_is)
    (case b_all => k_is)
    (case b_sum => k_is)
    (case b_list => k_is)
    (case b_tuple => k_is)
    (case b_range => k_is)
    (case b_min => k_is)
    (case b_set => k_is)
    (case b_sorted => k_is)
    (case n_WRONG => refine' Wc.num_in ?n_WRONGa; (case n_WRONGa => k_is))
    (case n_NO_SUCH_FILE => refine' Wc.num_in ?n_NO_SUCH_FILEa; (case n_NO_SUCH_FILEa => k_is))
    (case n_FULL => refine' Wc.num_in ?n_FULLa; (case n_FULLa => k_is))
    (case n_MOST_WORDS => refine' Wc.num_in ?n_MOST_WORDSa; (case n_MOST_WORDSa => k_is))
    (case n_GREATEST_WORD => refine' Wc.num_in ?n_GREATEST_WORDa; (case n_GREATEST_WORDa => k_is))
    (case n_MOST_FILES => refine' Wc.num_in ?n_MOST_FILESa; (case n_MOST_FILESa => k_is))
    (case n_MOST_FILE_SENTENCES => refine' Wc.num_in ?n_MOST_FILE_SENTENCESa; (case n_MOST_FILE_SENTENCESa => k_is))
    (case n_MOST_MEMORY_SENTENCES => refine' Wc.num_in ?n_MOST_MEMORY_SENTENCESa; (case n_MOST_MEMORY_SENTENCESa => k_is))
    (case n_MOST_BANDS => refine' Wc.num_in ?n_MOST_BANDSa; (case n_MOST_BANDSa => k_is))
    (case n_GREATEST_RATE => refine' Wc.num_in ?n_GREATEST_RATEa; (case n_GREATEST_RATEa => k_is))
    (case n_FIRST_AGAIN => refine' Wc.num_in ?n_FIRST_AGAINa; (case n_FIRST_AGAINa => k_is))
    (case n_MOST_HANDS => refine' Wc.num_in ?n_MOST_HANDSa; (case n_MOST_HANDSa => k_is))
    (case n_REPEATED => refine' Wc.num_in ?n_REPEATEDa; (case n_REPEATEDa => k_is))
    (case n_PAID_NEW => refine' Wc.num_in ?n_PAID_NEWa; (case n_PAID_NEWa => k_is))
    (case n_NEAR_NONE => refine' Wc.num_in ?n_NEAR_NONEa; (case n_NEAR_NONEa => k_is))
    (case n_FILE => refine' Wc.num_in ?n_FILEa; (case n_FILEa => k_is))
    (case n_GONE => refine' Wc.num_in ?n_GONEa; (case n_GONEa => k_is))
    (case n_MEMORY => refine' Wc.num_in ?n_MEMORYa; (case n_MEMORYa => k_is))
    (case n_DONE => refine' Wc.num_in ?n_DONEa; (case n_DONEa => k_is))
    (case n_RATES => refine' Wc.num_in ?n_RATESa; (case n_RATESa => k_is))
    (case n_COUNT => refine' Wc.num_in ?n_COUNTa; (case n_COUNTa => k_is))
    (case n_KINDS => refine' Wc.num_in ?n_KINDSa; (case n_KINDSa => k_is))
    (case n_PART => refine' Wc.num_in ?n_PARTa; (case n_PARTa => k_is))
    (case n_NEAR => refine' Wc.num_in ?n_NEARa; (case n_NEARa => k_is))
    (case n_SHOWS => refine' Wc.num_in ?n_SHOWSa; (case n_SHOWSa => k_is))
    (case t_bands =>
      refine' ⟨_, _, _, ?t1a, Wc.tup_in ?t1l ?t1c ?t1z ?t1r, Wc.tup_in ?t1l1 ?t1c1 ?t1z1 ?t1r1, Wc.tup_in ?t1l2 ?t1c2 ?t1z2 ?t1r2⟩
      (case t1a => k_is); (case t1l => k_is); (case t1c => rfl)
      (case t1z => decide)
      (case t1r => exact .cons rfl (.cons rfl .nil))
      (case t1l1 => k_is); (case t1c1 => rfl); (case t1z1 => decide); (case t1r1 => exact .cons ⟨_, rfl⟩ (.cons ⟨_, rfl⟩ .nil))
      (case t1l2 => k_is); (case t1c2 => rfl); (case t1z2 => decide); (case t1r2 => exact .cons ⟨_, rfl⟩ (.cons ⟨_, rfl⟩ .nil)))
    (case d_is_right_sentence => refine' Wc.def_in ?d_is_right_sentencea ?d_is_right_sentencel ?d_is_right_sentencec ?d_is_right_sentencek; (case d_is_right_sentencea => k_is); (case d_is_right_sentencel => k_is); (case d_is_right_sentencec => k_is); (case d_is_right_sentencek => k_is))
    (case d_are_right_sentences => refine' Wc.def_in ?d_are_right_sentencesa ?d_are_right_sentencesl ?d_are_right_sentencesc ?d_are_right_sentencesk; (case d_are_right_sentencesa => k_is); (case d_are_right_sentencesl => k_is); (case d_are_right_sentencesc => k_is); (case d_are_right_sentencesk => k_is))
    (case d_count_words => refine' Wc.def_in ?d_count_wordsa ?d_count_wordsl ?d_count_wordsc ?d_count_wordsk; (case d_count_wordsa => k_is); (case d_count_wordsl => k_is); (case d_count_wordsc => k_is); (case d_count_wordsk => k_is))
    (case d_fewest_changes => refine' Wc.def_in ?d_fewest_changesa ?d_fewest_changesl ?d_fewest_changesc ?d_fewest_changesk; (case d_fewest_changesa => k_is); (case d_fewest_changesl => k_is); (case d_fewest_changesc => k_is); (case d_fewest_changesk => k_is))
    (case d_how_near => refine' Wc.def_in ?d_how_neara ?d_how_nearl ?d_how_nearc ?d_how_neark; (case d_how_neara => k_is); (case d_how_nearl => k_is); (case d_how_nearc => k_is); (case d_how_neark => k_is))
    (case d_nearest => refine' Wc.def_in ?d_nearesta ?d_nearestl ?d_nearestc ?d_nearestk; (case d_nearesta => k_is); (case d_nearestl => k_is); (case d_nearestc => k_is); (case d_nearestk => k_is))
    (case d_kind_of => refine' Wc.def_in ?d_kind_ofa ?d_kind_ofl ?d_kind_ofc ?d_kind_ofk; (case d_kind_ofa => k_is); (case d_kind_ofl => k_is); (case d_kind_ofc => k_is); (case d_kind_ofk => k_is))
    (case d_kinds_of => refine' Wc.def_in ?d_kinds_ofa ?d_kinds_ofl ?d_kinds_ofc ?d_kinds_ofk; (case d_kinds_ofa => k_is); (case d_kinds_ofl => k_is); (case d_kinds_ofc => k_is); (case d_kinds_ofk => k_is))
    (case d_words_by_kind => refine' Wc.def_in ?d_words_by_kinda ?d_words_by_kindl ?d_words_by_kindc ?d_words_by_kindk; (case d_words_by_kinda => k_is); (case d_words_by_kindl => k_is); (case d_words_by_kindc => k_is); (case d_words_by_kindk => k_is))
    (case d_weight_of => refine' Wc.def_in ?d_weight_ofa ?d_weight_ofl ?d_weight_ofc ?d_weight_ofk; (case d_weight_ofa => k_is); (case d_weight_ofl => k_is); (case d_weight_ofc => k_is); (case d_weight_ofk => k_is))
    (case d_is_right_band => refine' Wc.def_in ?d_is_right_banda ?d_is_right_bandl ?d_is_right_bandc ?d_is_right_bandk; (case d_is_right_banda => k_is); (case d_is_right_bandl => k_is); (case d_is_right_bandc => k_is); (case d_is_right_bandk => k_is))
    (case d_are_falling => refine' Wc.def_in ?d_are_fallinga ?d_are_fallingl ?d_are_fallingc ?d_are_fallingk; (case d_are_fallinga => k_is); (case d_are_fallingl => k_is); (case d_are_fallingc => k_is); (case d_are_fallingk => k_is))
    (case d_are_right_bands => refine' Wc.def_in ?d_are_right_bandsa ?d_are_right_bandsl ?d_are_right_bandsc ?d_are_right_bandsk; (case d_are_right_bandsa => k_is); (case d_are_right_bandsl => k_is); (case d_are_right_bandsc => k_is); (case d_are_right_bandsk => k_is))
    (case d_with_unknown => refine' Wc.def_in ?d_with_unknowna ?d_with_unknownl ?d_with_unknownc ?d_with_unknownk; (case d_with_unknowna => k_is); (case d_with_unknownl => k_is); (case d_with_unknownc => k_is); (case d_with_unknownk => k_is))
    (case d_answer_near => refine' Wc.def_in ?d_answer_neara ?d_answer_nearl ?d_answer_nearc ?d_answer_neark; (case d_answer_neara => k_is); (case d_answer_nearl => k_is); (case d_answer_nearc => k_is); (case d_answer_neark => k_is))
    (case d_all_deals => refine' Wc.def_in ?d_all_dealsa ?d_all_dealsl ?d_all_dealsc ?d_all_dealsk; (case d_all_dealsa => k_is); (case d_all_dealsl => k_is); (case d_all_dealsc => k_is); (case d_all_dealsk => k_is))
    (case d_loads_of => refine' Wc.def_in ?d_loads_ofa ?d_loads_ofl ?d_loads_ofc ?d_loads_ofk; (case d_loads_ofa => k_is); (case d_loads_ofl => k_is); (case d_loads_ofc => k_is); (case d_loads_ofk => k_is))
    (case d_is_better => refine' Wc.def_in ?d_is_bettera ?d_is_betterl ?d_is_betterc ?d_is_betterk; (case d_is_bettera => k_is); (case d_is_betterl => k_is); (case d_is_betterc => k_is); (case d_is_betterk => k_is))
    (case d_best_deal => refine' Wc.def_in ?d_best_deala ?d_best_deall ?d_best_dealc ?d_best_dealk; (case d_best_deala => k_is); (case d_best_deall => k_is); (case d_best_dealc => k_is); (case d_best_dealk => k_is))
    (case d_sentences_of => refine' Wc.def_in ?d_sentences_ofa ?d_sentences_ofl ?d_sentences_ofc ?d_sentences_ofk; (case d_sentences_ofa => k_is); (case d_sentences_ofl => k_is); (case d_sentences_ofc => k_is); (case d_sentences_ofk => k_is))
    (case d_bands_of => refine' Wc.def_in ?d_bands_ofa ?d_bands_ofl ?d_bands_ofc ?d_bands_ofk; (case d_bands_ofa => k_is); (case d_bands_ofl => k_is); (case d_bands_ofc => k_is); (case d_bands_ofk => k_is))
    (case d_answer_call => refine' Wc.def_in ?d_answer_calla ?d_answer_calll ?d_answer_callc ?d_answer_callk; (case d_answer_calla => k_is); (case d_answer_calll => k_is); (case d_answer_callc => k_is); (case d_answer_callk => k_is))
    (case d_answers => refine' Wc.def_in ?d_answersa ?d_answersl ?d_answersc ?d_answersk; (case d_answersa => k_is); (case d_answersl => k_is); (case d_answersc => k_is); (case d_answersk => k_is))
    (case cH => refine' ⟨?cHa, ?cHp, ?cHh, ?cHo, ?cHs, ?cHm, ?cHk⟩; (case cHa => k_is); (case cHp => k_is); (case cHh => k_is); (case cHo => k_is); (case cHs => k_is); (case cHm => k_is); (case cHk => k_is))
    (case a_files => k_is)
    (case a_next_number => k_is)
    (case a_memory => k_is)
    (case a_again => k_is)
    (case a_bands => k_is)
    (case cR => refine' ⟨?cRa, ?cRp, ?cRh, ?cRo, ?cRs, ?cRm, ?cRk⟩; (case cRa => k_is); (case cRp => k_is); (case cRh => k_is); (case cRo => k_is); (case cRs => k_is); (case cRm => k_is); (case cRk => k_is))
    (case a_numbers => k_is)
    (case a_place => k_is)
    (case m_hinit => refine' Wc.meth_in ?m_hinita ?m_hiniti ?m_hinitl ?m_hinitc ?m_hinitk; (case m_hinita => k_is); (case m_hiniti => k_is); (case m_hinitl => k_is); (case m_hinitc => k_is); (case m_hinitk => k_is))
    (case m_rinit => refine' Wc.meth_in ?m_rinita ?m_riniti ?m_rinitl ?m_rinitc ?m_rinitk; (case m_rinita => k_is); (case m_riniti => k_is); (case m_rinitl => k_is); (case m_rinitc => k_is); (case m_rinitk => k_is))
    (case m_has_more => refine' Wc.meth_in ?m_has_morea ?m_has_morei ?m_has_morel ?m_has_morec ?m_has_morek; (case m_has_morea => k_is); (case m_has_morei => k_is); (case m_has_morel => k_is); (case m_has_morec => k_is); (case m_has_morek => k_is))
    (case m_take_number => refine' Wc.meth_in ?m_take_numbera ?m_take_numberi ?m_take_numberl ?m_take_numberc ?m_take_numberk; (case m_take_numbera => k_is); (case m_take_numberi => k_is); (case m_take_numberl => k_is); (case m_take_numberc => k_is); (case m_take_numberk => k_is))
    (case m_take_row => refine' Wc.meth_in ?m_take_rowa ?m_take_rowi ?m_take_rowl ?m_take_rowc ?m_take_rowk; (case m_take_rowa => k_is); (case m_take_rowi => k_is); (case m_take_rowl => k_is); (case m_take_rowc => k_is); (case m_take_rowk => k_is))
    (case m_add_file => refine' Wc.meth_in ?m_add_filea ?m_add_filei ?m_add_filel ?m_add_filec ?m_add_filek; (case m_add_filea => k_is); (case m_add_filei => k_is); (case m_add_filel => k_is); (case m_add_filec => k_is); (case m_add_filek => k_is))
    (case m_drop_file => refine' Wc.meth_in ?m_drop_filea ?m_drop_filei ?m_drop_filel ?m_drop_filec ?m_drop_filek; (case m_drop_filea => k_is); (case m_drop_filei => k_is); (case m_drop_filel => k_is); (case m_drop_filec => k_is); (case m_drop_filek => k_is))
    (case m_replace_memory => refine' Wc.meth_in ?m_replace_memorya ?m_replace_memoryi ?m_replace_memoryl ?m_replace_memoryc ?m_replace_memoryk; (case m_replace_memorya => k_is); (case m_replace_memoryi => k_is); (case m_replace_memoryl => k_is); (case m_replace_memoryc => k_is); (case m_replace_memoryk => k_is))
    (case m_finish_file => refine' Wc.meth_in ?m_finish_filea ?m_finish_filei ?m_finish_filel ?m_finish_filec ?m_finish_filek; (case m_finish_filea => k_is); (case m_finish_filei => k_is); (case m_finish_filel => k_is); (case m_finish_filec => k_is); (case m_finish_filek => k_is))
    (case m_replace_rates => refine' Wc.meth_in ?m_replace_ratesa ?m_replace_ratesi ?m_replace_ratesl ?m_replace_ratesc ?m_replace_ratesk; (case m_replace_ratesa => k_is); (case m_replace_ratesi => k_is); (case m_replace_ratesl => k_is); (case m_replace_ratesc => k_is); (case m_replace_ratesk => k_is))
    (case m_has_job => refine' Wc.meth_in ?m_has_joba ?m_has_jobi ?m_has_jobl ?m_has_jobc ?m_has_jobk; (case m_has_joba => k_is); (case m_has_jobi => k_is); (case m_has_jobl => k_is); (case m_has_jobc => k_is); (case m_has_jobk => k_is))
    (case m_job_of => refine' Wc.meth_in ?m_job_ofa ?m_job_ofi ?m_job_ofl ?m_job_ofc ?m_job_ofk; (case m_job_ofa => k_is); (case m_job_ofi => k_is); (case m_job_ofl => k_is); (case m_job_ofc => k_is); (case m_job_ofk => k_is))
    (case m_count_by_kind => refine' Wc.meth_in ?m_count_by_kinda ?m_count_by_kindi ?m_count_by_kindl ?m_count_by_kindc ?m_count_by_kindk; (case m_count_by_kinda => k_is); (case m_count_by_kindi => k_is); (case m_count_by_kindl => k_is); (case m_count_by_kindc => k_is); (case m_count_by_kindk => k_is))
    (case m_weigh => refine' Wc.meth_in ?m_weigha ?m_weighi ?m_weighl ?m_weighc ?m_weighk; (case m_weigha => k_is); (case m_weighi => k_is); (case m_weighl => k_is); (case m_weighc => k_is); (case m_weighk => k_is))
    (case m_count_job => refine' Wc.meth_in ?m_count_joba ?m_count_jobi ?m_count_jobl ?m_count_jobc ?m_count_jobk; (case m_count_joba => k_is); (case m_count_jobi => k_is); (case m_count_jobl => k_is); (case m_count_jobc => k_is); (case m_count_jobk => k_is))
    (case m_tell_kinds => refine' Wc.meth_in ?m_tell_kindsa ?m_tell_kindsi ?m_tell_kindsl ?m_tell_kindsc ?m_tell_kindsk; (case m_tell_kindsa => k_is); (case m_tell_kindsi => k_is); (case m_tell_kindsl => k_is); (case m_tell_kindsc => k_is); (case m_tell_kindsk => k_is))
    (case m_part_files => refine' Wc.meth_in ?m_part_filesa ?m_part_filesi ?m_part_filesl ?m_part_filesc ?m_part_filesk; (case m_part_filesa => k_is); (case m_part_filesi => k_is); (case m_part_filesl => k_is); (case m_part_filesc => k_is); (case m_part_filesk => k_is))
    (case m_show => refine' Wc.meth_in ?m_showa ?m_showi ?m_showl ?m_showc ?m_showk; (case m_showa => k_is); (case m_showi => k_is); (case m_showl => k_is); (case m_showc => k_is); (case m_showk => k_is))
  case S =>
    intro K H xs a hO hwi hask hx
    cases hx with
    | cons h1 h2 =>
      cases h2
      cases h1 with
      | lst hs ha =>
        have e := L2.ints_dw a.1 _ ha
        subst e
        exact ⟨_, a.1, rfl, hs, hask, fun H' p hp => .lst (L2.SqL.of hp) (L2.dw_ints _)⟩
#print axioms PySem.Challenge.cw_wordcounts_s01_answers_holds
