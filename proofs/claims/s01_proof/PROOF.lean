import PyProof.Rows.All
import Wide.All
import OpenK.AllK
import Wide.FinOn
import Open.SpecLaws
import KE.OsGo
import KE.DataMinMax
import KE.IntBitsLaws
import HandS.ForSpec
import HandS.Comp
import HandS.Iter
import HandS.Walk
import HandS.Evl
import HandS.Flow
import HandS.Conv
import HandS.SortKw
import HandS.WideBits
import PyWideLaws
import PySem.Challenge.RW_proofcheck_s01_answers
set_option Elab.async false
namespace PC
open Pn (Act Task)
/-! ### 1. Numbers with "cannot be had" as the greatest -/
def Ole (a b : Option Nat) : Prop := ∀ y, b = some y → ∃ x, a = some x ∧ x ≤ y
theorem Ole.refl (a : Option Nat) : Ole a a := fun y h => ⟨y, h, Nat.le_refl _⟩
theorem Ole.trans {a b c : Option Nat} (h : Ole a b) (g : Ole b c) : Ole a c := fun y hy => by
  obtain ⟨x, hx, l⟩ := g y hy
  obtain ⟨z, hz, m⟩ := h x hx
  exact ⟨z, hz, Nat.le_trans m l⟩
theorem Ole.none (a : Option Nat) : Ole a none := fun y h => by cases h
theorem Ole.some {x y : Nat} : Ole (some x) (some y) ↔ x ≤ y := by
  constructor
  · intro h
    obtain ⟨z, hz, l⟩ := h y rfl
    cases hz
    exact l
  · intro h z hz
    cases hz
    exact ⟨x, rfl, h⟩
theorem Ole.zero (a : Option Nat) : Ole (Option.some 0) a := fun y _ => ⟨0, rfl, Nat.zero_le _⟩
theorem Ole.total (a b : Option Nat) : Ole a b ∨ Ole b a := by
  cases a with
  | none => exact .inr (Ole.none _)
  | some x =>
    cases b with
    | none => exact .inl (Ole.none _)
    | some y =>
      rw [Ole.some, Ole.some]
      omega
theorem Ole.anti {a b : Option Nat} (h : Ole a b) (g : Ole b a) : a = b := by
  cases a with
  | none =>
    cases b with
    | none => rfl
    | some y =>
      obtain ⟨x, hx, _⟩ := h y rfl
      cases hx
  | some x =>
    obtain ⟨y, hy, l⟩ := g x rfl
    subst hy
    rw [Ole.some] at h
    have e : x = y := by omega
    rw [e]
theorem ole_map_add {a b : Option Nat} (c : Nat) (h : Ole a b) : Ole (a.map fun x => c + x) (b.map fun x => c + x) := fun y hy => by
  cases b with
  | none => cases hy
  | some z =>
    obtain ⟨x, hx, l⟩ := h z rfl
    subst hx
    cases hy
    exact ⟨c + x, rfl, Nat.add_le_add_left l c⟩
theorem ole_add_left {a : Option Nat} (c : Nat) : Ole a (a.map fun x => c + x) := fun y hy => by
  cases a with
  | none => cases hy
  | some z =>
    cases hy
    exact ⟨z, rfl, Nat.le_add_left z c⟩
theorem ole_map_cancel {a b : Option Nat} {c : Nat} (h : Ole (a.map fun x => c + x) (b.map fun x => c + x)) : Ole a b := fun y hy => by
  subst hy
  obtain ⟨x, hx, l⟩ := h (c + y) rfl
  cases a with
  | none => cases hx
  | some z =>
    cases hx
    exact ⟨z, rfl, Nat.le_of_add_le_add_left l⟩
theorem least_l (a b : Option Nat) : Ole (Pn.least a b) a := by
  cases a with
  | none => exact Ole.none _
  | some x =>
    cases b with
    | none => exact Ole.refl _
    | some y =>
      show Ole (some (min x y)) (some x)
      rw [Ole.some]
      omega
theorem least_r (a b : Option Nat) : Ole (Pn.least a b) b := by
  cases b with
  | none => exact Ole.none _
  | some y =>
    cases a with
    | none => exact Ole.refl _
    | some x =>
      show Ole (some (min x y)) (some y)
      rw [Ole.some]
      omega
theorem least_or (a b : Option Nat) : Pn.least a b = a ∨ Pn.least a b = b := by
  cases a with
  | none => exact .inr (by cases b <;> rfl)
  | some x =>
    cases b with
    | none => exact .inl rfl
    | some y =>
      show some (min x y) = some x ∨ some (min x y) = some y
      by_cases h : x ≤ y
      · exact .inl (by rw [Nat.min_eq_left h])
      · exact .inr (by rw [Nat.min_eq_right (by omega)])
theorem least_none_left (a : Option Nat) : Pn.least none a = a := by cases a <;> rfl
/-- the least of a row -/
def minO (l : List (Option Nat)) : Option Nat := l.foldl Pn.least none
theorem minO_fold : ∀ (l : List (Option Nat)) (b : Option Nat), (Ole (l.foldl Pn.least b) b ∧ ∀ x ∈ l, Ole (l.foldl Pn.least b) x) ∧ (l.foldl Pn.least b = b ∨ l.foldl Pn.least b ∈ l)
  | [], b => ⟨⟨Ole.refl _, fun _ h => by cases h⟩, .inl rfl⟩
  | y :: l, b => by
    obtain ⟨⟨h1, h2⟩, h3⟩ := minO_fold l (Pn.least b y)
    show (Ole (l.foldl Pn.least (Pn.least b y)) b ∧ ∀ x ∈ y :: l, Ole (l.foldl Pn.least (Pn.least b y)) x) ∧ (l.foldl Pn.least (Pn.least b y) = b ∨ l.foldl Pn.least (Pn.least b y) ∈ y :: l)
    refine ⟨⟨h1.trans (least_l _ _), fun x hx => ?_⟩, ?_⟩
    · rcases List.mem_cons.mp hx with e | hx
      · subst e
        exact h1.trans (least_r _ _)
      · exact h2 x hx
    · rcases h3 with h3 | h3
      · rcases least_or b y with e | e
        · exact .inl (h3.trans e)
        · exact .inr (by rw [h3, e]; exact List.mem_cons_self ..)
      · exact .inr (List.mem_cons_of_mem _ h3)
theorem minO_le {l : List (Option Nat)} {x : Option Nat} (h : x ∈ l) : Ole (minO l) x := (minO_fold l none).1.2 x h
theorem minO_mem (l : List (Option Nat)) : minO l = none ∨ minO l ∈ l := (minO_fold l none).2
theorem minO_eq {l : List (Option Nat)} {m : Option Nat} (h : ∀ x ∈ l, Ole m x) (g : m = none ∨ m ∈ l) : minO l = m := by
  refine Ole.anti ?_ ?_
  · rcases g with e | g
    · rw [e]; exact Ole.none _
    · exact minO_le g
  · rcases minO_mem l with e | g
    · rw [e]; exact Ole.none _
    · exact h _ g
theorem fold_least {α : Type} (f : α → Option Nat) : ∀ (l : List α) (b : Option Nat), l.foldl (fun b a => Pn.least b (f a)) b = (l.map f).foldl Pn.least b
  | [], _ => rfl
  | a :: l, b => by
    show l.foldl _ (Pn.least b (f a)) = (l.map f).foldl Pn.least (Pn.least b (f a))
    exact fold_least f l _
theorem fold_least_if {α : Type} (p : α → Prop) [DecidablePred p] (f : α → Option Nat) (l : List α) (b : Option Nat) : l.foldl (fun b a => if p a then Pn.least b (f a) else b) b = (l.map fun a => if p a then f a else none).foldl Pn.least b := by
  rw [← fold_least]
  congr 1
  funext b a
  by_cases h : p a
  · rw [if_pos h, if_pos h]
  · rw [if_neg h, if_neg h]
    cases b <;> rfl
theorem fold_from (l : List (Option Nat)) (b : Option Nat) : l.foldl Pn.least b = Pn.least b (minO l) := by
  have h := minO_fold l b
  refine Ole.anti ?_ ?_
  · rcases least_or b (minO l) with e | e
    · rw [e]; exact h.1.1
    · rw [e]
      rcases minO_mem l with g | g
      · rw [g]; exact Ole.none _
      · exact h.1.2 _ g
  · rcases h.2 with e | e
    · rw [e]; exact least_l _ _
    · exact (least_r _ _).trans (minO_le e)
theorem least_of_ole {a b : Option Nat} (h : Ole b a) : Pn.least a b = b := Ole.anti (least_r _ _) (by
  rcases least_or a b with e | e
  · rw [e]; exact h
  · rw [e]; exact Ole.refl _)

/-! ### 2. Rounds that only come down settle -/
theorem nodup_len : ∀ (N : Nat) (l : List Nat), l.Nodup → (∀ x ∈ l, x < N) → l.length ≤ N
  | 0, l, _, h => by
    cases l with
    | nil => exact Nat.le_refl _
    | cons a l => exact absurd (h a (List.mem_cons_self ..)) (Nat.not_lt_zero _)
  | N + 1, l, nd, h => by
    by_cases m : N ∈ l
    · have e := List.length_erase_of_mem m
      have ih := nodup_len N (l.erase N) (nd.erase N) (fun x hx => by
        have h1 := h x (List.mem_of_mem_erase hx)
        have h2 : x ≠ N := (nd.mem_erase_iff.mp hx).1
        omega)
      omega
    · have ih := nodup_len N l nd (fun x hx => by
        have h1 := h x hx
        have h2 : x ≠ N := fun e => m (e ▸ hx)
        omega)
      omega
abbrev Fn := Nat → Option Nat
/-- the k-th round, from "nothing can be had" -/
def rnd (F : Fn → Fn) : Nat → Fn
  | 0 => fun _ => none
  | k + 1 => F (rnd F k)
structure Falls (N : Nat) (F : Fn → Fn) : Prop where
  mono : ∀ d d' : Fn, (∀ s, Ole (d s) (d' s)) → ∀ s, Ole (F d s) (F d' s)
  sel : ∀ d d' : Fn, (∀ s, Ole (d s) (d' s)) → ∀ s, s < N → ¬ Ole (F d' s) (F d s) → ∃ s', s' < N ∧ ¬ Ole (d' s') (d s') ∧ Ole (d s') (F d s)
  out : ∀ d s, N ≤ s → F d s = none
section
variable {N : Nat} {F : Fn → Fn}
theorem rnd_down (h : Falls N F) : ∀ k s, Ole (rnd F (k + 1) s) (rnd F k s)
  | 0, _ => Ole.none _
  | k + 1, s => h.mono _ _ (rnd_down h k) s
theorem rnd_le (h : Falls N F) {i j : Nat} (l : i ≤ j) (s : Nat) : Ole (rnd F j s) (rnd F i s) := by
  induction l with
  | refl => exact Ole.refl _
  | step _ ih => exact (rnd_down h _ s).trans ih
theorem rnd_chain (h : Falls N F) : ∀ k s, s < N → ¬ Ole (rnd F k s) (rnd F (k + 1) s) → ∃ l : List Nat, l.length = k + 1 ∧ l.Nodup ∧ (∀ x ∈ l, x < N) ∧ ∀ x ∈ l, Ole (rnd F (k + 1) x) (rnd F (k + 1) s)
  | 0, s, hs, _ => ⟨[s], rfl, List.nodup_cons.mpr ⟨List.not_mem_nil, List.nodup_nil⟩, fun x hx => by
      rw [List.mem_singleton.mp hx]; exact hs, fun x hx => by
      rw [List.mem_singleton.mp hx]; exact Ole.refl _⟩
  | k + 1, s, hs, hn => by
    obtain ⟨s', h1, h2, h3⟩ := h.sel _ _ (rnd_down h k) s hs hn
    obtain ⟨l, e, nd, lt, le⟩ := rnd_chain h k s' h1 h2
    refine ⟨s :: l, by rw [List.length_cons, e], List.nodup_cons.mpr ⟨fun m => hn ((le s m).trans h3), nd⟩, fun x hx => ?_, fun x hx => ?_⟩
    · rcases List.mem_cons.mp hx with e | hx
      · rw [e]; exact hs
      · exact lt x hx
    · rcases List.mem_cons.mp hx with e | hx
      · rw [e]; exact Ole.refl _
      · exact (rnd_down h (k + 1) x).trans ((le x hx).trans h3)
/-- after N rounds nothing changes -/
theorem rnd_settled (h : Falls N F) : rnd F (N + 1) = rnd F N := by
  funext s
  by_cases hs : s < N
  · refine Ole.anti (rnd_down h N s) ?_
    by_cases g : Ole (rnd F N s) (rnd F (N + 1) s)
    · exact g
    · obtain ⟨l, e, nd, lt, _⟩ := rnd_chain h N s hs g
      have := nodup_len N l nd lt
      omega
  · have hs : N ≤ s := by omega
    show F _ s = _
    rw [h.out _ _ hs]
    cases N with
    | zero => rfl
    | succ n => exact (h.out _ _ hs).symm
theorem rnd_stays {k : Nat} (e : rnd F (k + 1) = rnd F k) : ∀ j, rnd F (k + j) = rnd F k
  | 0 => rfl
  | j + 1 => by
    show F (rnd F (k + j)) = rnd F k
    rw [rnd_stays e j]
    exact e
/-- wherever the rounds stand still they are at the same -/
theorem rnd_end (h : Falls N F) {k : Nat} (e : rnd F (k + 1) = rnd F k) : rnd F k = rnd F N := by
  have a := rnd_stays e N
  have b := rnd_stays (rnd_settled h) k
  rw [← a, ← b, Nat.add_comm]
theorem rnd_fix (h : Falls N F) : F (rnd F N) = rnd F N := rnd_settled h
theorem rnd_late (h : Falls N F) {k : Nat} (l : N ≤ k) : rnd F k = rnd F N := by
  have := rnd_stays (rnd_settled h) (k - N)
  rw [show N + (k - N) = k by omega] at this
  exact this
/-- a list of the first N -/
theorem list_eq_fn {f g : Fn} (h : (List.range N).map f = (List.range N).map g) : ∀ s, s < N → f s = g s := fun s hs => by
  have e := congrArg (fun l => l[s]?) h
  simp only [List.getElem?_map, List.getElem?_range hs, Option.map_some] at e
  exact Option.some.inj e
theorem rnd_same_of_list (h : Falls N F) {k : Nat} (e : (List.range N).map (rnd F (k + 1)) = (List.range N).map (rnd F k)) : rnd F (k + 1) = rnd F k := by
  funext s
  by_cases hs : s < N
  · exact list_eq_fn e s hs
  · have hs : N ≤ s := by omega
    show F _ s = _
    rw [h.out _ _ hs]
    cases k with
    | zero => rfl
    | succ n => exact (h.out _ _ hs).symm
end
end PC

set_option Elab.async false
namespace PC
open Pn (Act Task)
/-! ### 3. A task as the house lets one be -/
structure WF (t : Task) : Prop where
  f1 : 1 ≤ t.facts
  f4 : t.facts ≤ 4
  n8 : t.acts.length ≤ 8
  rt : ∀ a ∈ t.acts, a.right t.facts = true
  st : t.start < 2 ^ t.facts
  gl : t.goal < 2 ^ t.facts
structure Rt (a : Act) (n : Nat) : Prop where
  pre : a.pre < 2 ^ n
  no : a.no < 2 ^ n
  add : a.add < 2 ^ n
  del : a.del < 2 ^ n
  c1 : 1 ≤ a.cost
  c2 : a.cost ≤ 1000
theorem right_iff {a : Act} {n : Nat} : a.right n = true ↔ Rt a n := by
  unfold Pn.Act.right Pn.COST
  simp only [Bool.and_eq_true, decide_eq_true_eq]
  exact ⟨fun ⟨a, b, c, d, e, f⟩ => ⟨a, b, c, d, e, f⟩, fun ⟨a, b, c, d, e, f⟩ => ⟨a, b, c, d, e, f⟩⟩
theorem WF.at {t : Task} (w : WF t) {a : Act} (h : a ∈ t.acts) : Rt a t.facts := right_iff.mp (w.rt a h)
theorem WF.lt16 {t : Task} (w : WF t) : 2 ^ t.facts ≤ 16 := Nat.pow_le_pow_right (by decide) w.f4
theorem WF.pos {t : Task} (_w : WF t) : 0 < 2 ^ t.facts := Nat.two_pow_pos _
theorem then_lt {a : Act} {n s : Nat} (r : Rt a n) (hs : s < 2 ^ n) : a.then_ s < 2 ^ n := by
  unfold Pn.Act.then_
  exact Nat.or_lt_two_pow (Nat.lt_of_le_of_lt (Nat.sub_le _ _) hs) r.add
/-! ### 4. What it costs -/
def through (d : Fn) (s : Nat) (a : Act) : Option Nat := if a.may s = true then (d (a.then_ s)).map (fun c => a.cost + c) else none
def stepC (t : Task) (d : Fn) : Fn := fun s => if s < 2 ^ t.facts then (if t.done s = true then some 0 else minO (t.acts.map (through d s))) else none
theorem minO_mono {α : Type} (l : List α) (f g : α → Option Nat) (h : ∀ a ∈ l, Ole (f a) (g a)) : Ole (minO (l.map f)) (minO (l.map g)) := by
  rcases minO_mem (l.map g) with e | e
  · rw [e]; exact Ole.none _
  · obtain ⟨a, ha, e⟩ := List.mem_map.mp e
    rw [← e]
    exact (minO_le (List.mem_map.mpr ⟨a, ha, rfl⟩)).trans (h a ha)
theorem through_mono {d d' : Fn} (h : ∀ s, Ole (d s) (d' s)) (s : Nat) (a : Act) : Ole (through d s a) (through d' s a) := by
  unfold through
  by_cases m : a.may s = true
  · rw [if_pos m, if_pos m]
    exact ole_map_add _ (h _)
  · rw [if_neg m]
    rw [if_neg m]
    exact Ole.none _
theorem falls_costs {t : Task} (w : WF t) : Falls (2 ^ t.facts) (stepC t) where
  mono := fun d d' h s => by
    unfold stepC
    by_cases hs : s < 2 ^ t.facts
    · rw [if_pos hs, if_pos hs]
      by_cases g : t.done s = true
      · rw [if_pos g, if_pos g]; exact Ole.refl _
      · rw [if_neg g, if_neg g]
        exact minO_mono _ _ _ fun a _ => through_mono h s a
    · rw [if_neg hs, if_neg hs]
      exact Ole.none _
  sel := fun d d' h s hs hn => by
    unfold stepC at hn ⊢
    rw [if_pos hs, if_pos hs] at hn
    rw [if_pos hs]
    by_cases g : t.done s = true
    · rw [if_pos g, if_pos g] at hn
      exact absurd (Ole.refl _) hn
    · rw [if_neg g, if_neg g] at hn
      rw [if_neg g]
      rcases minO_mem (t.acts.map (through d s)) with e | e
      · rw [e] at hn
        exact absurd (Ole.none _) hn
      · obtain ⟨a, ha, e⟩ := List.mem_map.mp e
        rw [← e] at hn ⊢
        have h1 : ¬ Ole (through d' s a) (through d s a) := fun q => hn ((minO_le (List.mem_map.mpr ⟨a, ha, rfl⟩)).trans q)
        unfold through at h1 ⊢
        by_cases m : a.may s = true
        · rw [if_pos m, if_pos m] at h1
          rw [if_pos m]
          exact ⟨a.then_ s, then_lt (w.at ha) hs, fun q => h1 (ole_map_add _ q), ole_add_left _⟩
        · rw [if_neg m, if_neg m] at h1
          exact absurd (Ole.refl _) h1
  out := fun d s hs => by
    unfold stepC
    rw [if_neg (by omega)]
def rowOf (n : Nat) (f : Fn) : List (Option Nat) := (List.range n).map f
theorem rowOf_get {n : Nat} {f : Fn} {s : Nat} (h : s < n) : (rowOf n f)[s]? = some (f s) := by
  unfold rowOf
  rw [List.getElem?_map, List.getElem?_range h]
  rfl
theorem rowOf_len (n : Nat) (f : Fn) : (rowOf n f).length = n := by
  unfold rowOf
  rw [List.length_map, List.length_range]
theorem at_row {n : Nat} {f : Fn} (h : ∀ s, n ≤ s → f s = none) (s : Nat) : Pn.at_ (rowOf n f).toArray s = f s := by
  unfold Pn.at_
  rw [Array.getD_eq_getD_getElem?, List.getElem?_toArray]
  by_cases hs : s < n
  · rw [rowOf_get hs]
    rfl
  · rw [List.getElem?_eq_none (by rw [rowOf_len]; omega), h s (by omega)]
    rfl
/-- the k-th round's function -/
abbrev cr (t : Task) (k : Nat) : Fn := rnd (stepC t) k
def cst (t : Task) : Fn := rnd (stepC t) (2 ^ t.facts)
theorem cr_out {t : Task} (w : WF t) (k s : Nat) (h : 2 ^ t.facts ≤ s) : cr t k s = none := by
  cases k with
  | zero => rfl
  | succ n => exact (falls_costs w).out _ _ h
theorem stepC_done {t : Task} {d : Fn} {s : Nat} (h : s < 2 ^ t.facts) (g : t.done s = true) : stepC t d s = some 0 := by
  unfold stepC
  rw [if_pos h, if_pos g]
theorem stepC_open {t : Task} {d : Fn} {s : Nat} (h : s < 2 ^ t.facts) (g : t.done s = false) : stepC t d s = minO (t.acts.map (through d s)) := by
  unfold stepC
  rw [if_pos h, if_neg (by rw [g]; decide)]
theorem cr_done {t : Task} (k s : Nat) (h : s < 2 ^ t.facts) (g : t.done s = true) : cr t (k + 1) s = some 0 := stepC_done h g
theorem cr_open {t : Task} (k s : Nat) (h : s < 2 ^ t.facts) (g : t.done s = false) : cr t (k + 1) s = minO (t.acts.map (through (cr t k) s)) := stepC_open h g
theorem cr_one {t : Task} (s : Nat) (h : s < 2 ^ t.facts) : cr t 1 s = if t.done s = true then some 0 else none := by
  by_cases g : t.done s = true
  · rw [cr_done 0 s h g, if_pos g]
  · rw [cr_open 0 s h (by simpa using g), if_neg g]
    refine minO_eq (fun x hx => ?_) (.inl rfl)
    obtain ⟨a, _, e⟩ := List.mem_map.mp hx
    rw [← e]
    unfold through
    by_cases m : a.may s = true
    · rw [if_pos m]; exact Ole.none _
    · rw [if_neg m]; exact Ole.none _
theorem round_row {t : Task} (w : WF t) (k : Nat) : t.round (rowOf (2 ^ t.facts) (cr t (k + 1))).toArray = (rowOf (2 ^ t.facts) (cr t (k + 2))).toArray := by
  unfold Pn.Task.round
  refine congrArg List.toArray ?_
  show _ = (List.range (2 ^ t.facts)).map (cr t (k + 2))
  refine List.map_congr_left fun s hs => ?_
  have hs : s < 2 ^ t.facts := List.mem_range.mp hs
  rw [at_row (fun s h => cr_out w _ s h)]
  have e : (fun (b : Option Nat) (a : Act) => if a.may s = true then Pn.least b ((Pn.at_ (rowOf (2 ^ t.facts) (cr t (k + 1))).toArray (a.then_ s)).map fun c => a.cost + c) else b) = fun b a => if a.may s = true then Pn.least b ((cr t (k + 1) (a.then_ s)).map fun c => a.cost + c) else b := by
    funext b a
    rw [at_row (fun s h => cr_out w _ s h)]
  rw [e, fold_least_if (fun a : Act => a.may s = true) (fun a : Act => (cr t (k + 1) (a.then_ s)).map fun c => a.cost + c), fold_from]
  show Pn.least (cr t (k + 1) s) (minO (t.acts.map (through (cr t (k + 1)) s))) = _
  by_cases g : t.done s = true
  · rw [cr_done k s hs g, cr_done (k + 1) s hs g]
    exact Ole.anti (least_l _ _) (Ole.zero _)
  · have g : t.done s = false := by simpa using g
    have d := rnd_down (falls_costs w) (k + 1) s
    have e2 := cr_open (k + 1) s hs g
    rw [← e2]
    exact least_of_ole d
theorem settle_row {t : Task} (w : WF t) : ∀ n k, Pn.settle t.round n (rowOf (2 ^ t.facts) (cr t (k + 1))).toArray = (rowOf (2 ^ t.facts) (cr t (k + 1 + n))).toArray
  | 0, _ => rfl
  | n + 1, k => by
    show (if t.round (rowOf (2 ^ t.facts) (cr t (k + 1))).toArray = (rowOf (2 ^ t.facts) (cr t (k + 1))).toArray then (rowOf (2 ^ t.facts) (cr t (k + 1))).toArray else Pn.settle t.round n (t.round (rowOf (2 ^ t.facts) (cr t (k + 1))).toArray)) = _
    rw [round_row w]
    by_cases e : (rowOf (2 ^ t.facts) (cr t (k + 2))).toArray = (rowOf (2 ^ t.facts) (cr t (k + 1))).toArray
    · rw [if_pos e]
      have e1 : rowOf (2 ^ t.facts) (cr t (k + 2)) = rowOf (2 ^ t.facts) (cr t (k + 1)) := by
        have := congrArg Array.toList e
        simpa using this
      have e2 := rnd_same_of_list (falls_costs w) e1
      have e3 := rnd_stays e2 (n + 1)
      show _ = (rowOf (2 ^ t.facts) (rnd (stepC t) (k + 1 + (n + 1)))).toArray
      rw [e3]
    · rw [if_neg e, settle_row w n (k + 1), show k + 1 + 1 + n = k + 1 + (n + 1) by omega]
theorem costs_eq {t : Task} (w : WF t) : t.costs = (rowOf (2 ^ t.facts) (cst t)).toArray := by
  unfold Pn.Task.costs
  have e : ((List.range (2 ^ t.facts)).map fun s => if t.done s = true then some 0 else none) = rowOf (2 ^ t.facts) (cr t 1) := List.map_congr_left fun s hs => (cr_one s (List.mem_range.mp hs)).symm
  rw [e, settle_row w, show 0 + 1 + (2 ^ t.facts + 1) = 2 ^ t.facts + 2 by omega]
  show (rowOf (2 ^ t.facts) (rnd (stepC t) (2 ^ t.facts + 2))).toArray = _
  rw [rnd_late (falls_costs w) (show 2 ^ t.facts ≤ 2 ^ t.facts + 2 by omega)]
  rfl
theorem cst_out {t : Task} (w : WF t) (s : Nat) (h : 2 ^ t.facts ≤ s) : cst t s = none := cr_out w _ s h
theorem at_costs {t : Task} (w : WF t) (s : Nat) : Pn.at_ t.costs s = cst t s := by
  rw [costs_eq w]
  exact at_row (cst_out w) s
theorem cst_fix {t : Task} (w : WF t) : stepC t (cst t) = cst t := rnd_fix (falls_costs w)
theorem cst_done {t : Task} (w : WF t) {s : Nat} (h : s < 2 ^ t.facts) (g : t.done s = true) : cst t s = some 0 := (congrFun (cst_fix w) s).symm.trans (stepC_done h g)
theorem cst_open {t : Task} (w : WF t) {s : Nat} (h : s < 2 ^ t.facts) (g : t.done s = false) : cst t s = minO (t.acts.map (through (cst t) s)) := (congrFun (cst_fix w) s).symm.trans (stepC_open h g)
/-- the program's loop: where a round gives the round before it, that is the end -/
theorem cr_end {t : Task} (w : WF t) {k : Nat} (e : rowOf (2 ^ t.facts) (cr t (k + 1)) = rowOf (2 ^ t.facts) (cr t k)) : rowOf (2 ^ t.facts) (cr t (k + 1)) = rowOf (2 ^ t.facts) (cst t) := by
  have e1 := rnd_same_of_list (falls_costs w) e
  show rowOf _ (rnd (stepC t) (k + 1)) = _
  rw [e1, rnd_end (falls_costs w) e1]
  rfl
/-- .. and it comes within so many rounds -/
theorem cr_soon {t : Task} (w : WF t) {k : Nat} (h : 2 ^ t.facts ≤ k) : rowOf (2 ^ t.facts) (cr t (k + 1)) = rowOf (2 ^ t.facts) (cr t k) := by
  show rowOf _ (rnd (stepC t) (k + 1)) = rowOf _ (rnd (stepC t) k)
  rw [rnd_late (falls_costs w) h, rnd_late (falls_costs w) (show 2 ^ t.facts ≤ k + 1 by omega)]
end PC

set_option Elab.async false
namespace PC
open Pn (Act Task)
/-! ### 5. The first of the cheapest plans -/
theorem act_get {t : Task} {k : Nat} (h : k < t.acts.length) : t.act k = t.acts[k] := by
  unfold Pn.Task.act
  simp [h]
theorem act_mem {t : Task} {k : Nat} (h : k < t.acts.length) : t.act k ∈ t.acts := by
  rw [act_get h]
  exact List.getElem_mem h
theorem filter_lt {α : Type} {p q : α → Bool} : ∀ {l : List α}, (∀ x ∈ l, p x = true → q x = true) → (∃ x ∈ l, q x = true ∧ p x = false) → (l.filter p).length < (l.filter q).length
  | [], _, ⟨_, h, _⟩ => by cases h
  | a :: l, h, ⟨x, hx, hq, hp⟩ => by
    have hl : ∀ x ∈ l, p x = true → q x = true := fun y hy => h y (List.mem_cons_of_mem _ hy)
    have le : (l.filter p).length ≤ (l.filter q).length := by
      clear hx hq hp h
      induction l with
      | nil => exact Nat.le_refl _
      | cons b l ih =>
        have ih := ih fun y hy => hl y (List.mem_cons_of_mem _ hy)
        by_cases c : p b = true
        · rw [List.filter_cons_of_pos c, List.filter_cons_of_pos (hl b (List.mem_cons_self ..) c), List.length_cons, List.length_cons]
          omega
        · rw [List.filter_cons_of_neg c]
          by_cases d : q b = true
          · rw [List.filter_cons_of_pos d, List.length_cons]
            omega
          · rw [List.filter_cons_of_neg d]
            exact ih
    rcases List.mem_cons.mp hx with e | hx
    · subst e
      rw [List.filter_cons_of_neg (by rw [hp]; decide), List.filter_cons_of_pos hq, List.length_cons]
      omega
    · have ih := filter_lt hl ⟨x, hx, hq, hp⟩
      by_cases c : p a = true
      · rw [List.filter_cons_of_pos c, List.filter_cons_of_pos (h a (List.mem_cons_self ..) c), List.length_cons, List.length_cons]
        omega
      · rw [List.filter_cons_of_neg c]
        by_cases d : q a = true
        · rw [List.filter_cons_of_pos d, List.length_cons]
          omega
        · rw [List.filter_cons_of_neg d]
          exact ih
/-- how many states have a cheaper plan -/
def cheaper (t : Task) (s x : Nat) : Bool := match cst t x, cst t s with
  | some a, some b => decide (a < b)
  | _, _ => false
def rank (t : Task) (s : Nat) : Nat := ((List.range (2 ^ t.facts)).filter (cheaper t s)).length
theorem cheaper_some {t : Task} {s x a b : Nat} (h1 : cst t x = some a) (h2 : cst t s = some b) : cheaper t s x = decide (a < b) := by
  unfold cheaper
  rw [h1, h2]
theorem cheaper_inv {t : Task} {s x : Nat} (h : cheaper t s x = true) : ∃ a b, cst t x = some a ∧ cst t s = some b ∧ a < b := by
  unfold cheaper at h
  cases h1 : cst t x with
  | none => rw [h1] at h; cases h
  | some a =>
    cases h2 : cst t s with
    | none => rw [h1, h2] at h; cases h
    | some b =>
      rw [h1, h2] at h
      exact ⟨a, b, rfl, rfl, of_decide_eq_true h⟩
theorem rank_lt {t : Task} {s s' a b : Nat} (hs : s' < 2 ^ t.facts) (h1 : cst t s' = some a) (h2 : cst t s = some b) (l : a < b) : rank t s' < rank t s := by
  unfold rank
  refine filter_lt (fun x _ hx => ?_) ⟨s', List.mem_range.mpr hs, ?_, ?_⟩
  · obtain ⟨p, q, hp, hq, hl⟩ := cheaper_inv hx
    rw [h1] at hq
    cases hq
    rw [cheaper_some hp h2]
    exact decide_eq_true (by omega)
  · rw [cheaper_some h1 h2]
    exact decide_eq_true l
  · rw [cheaper_some h1 h1]
    exact decide_eq_false (by omega)
theorem rank_lt_all {t : Task} {s : Nat} (hs : s < 2 ^ t.facts) : rank t s < 2 ^ t.facts := by
  unfold rank
  have h := filter_lt (p := cheaper t s) (q := fun _ => true) (l := List.range (2 ^ t.facts)) (fun _ _ _ => rfl) ⟨s, List.mem_range.mpr hs, rfl, by
    unfold cheaper
    cases cst t s with
    | none => rfl
    | some a => exact decide_eq_false (by omega)⟩
  rw [List.filter_eq_self.mpr (fun _ _ => rfl), List.length_range] at h
  exact h
/-- the act with which the first of the cheapest plans begins -/
def goesBy (t : Task) (s k : Nat) : Bool := t.can s k && ((Pn.at_ t.costs ((t.act k).then_ s)).map fun c => (t.act k).cost + c) == Pn.at_ t.costs s
theorem goesBy_iff {t : Task} (w : WF t) {s k c : Nat} (hk : k < t.acts.length) (hc : cst t s = some c) : goesBy t s k = true ↔ through (cst t) s (t.act k) = some c := by
  unfold goesBy Pn.Task.can through
  rw [at_costs w, at_costs w, hc, decide_eq_true hk, Bool.true_and]
  by_cases m : (t.act k).may s = true
  · rw [m, if_pos rfl, Bool.true_and]
    simp only [beq_iff_eq]
  · have m : (t.act k).may s = false := by simpa using m
    rw [m, if_neg (by decide), Bool.false_and]
    constructor
    · intro h; cases h
    · intro h; cases h
/-- one step -/
structure Step1 (t : Task) (s k : Nat) : Prop where
  lt : k < t.acts.length
  by_ : goesBy t s k = true
  first : ∀ j, j < k → goesBy t s j = false
theorem find_range : ∀ {n : Nat} {p : Nat → Bool} {k : Nat}, (List.range n).find? p = some k ↔ (k < n ∧ p k = true ∧ ∀ j, j < k → p j = false) := by
  intro n p k
  rw [List.find?_eq_some_iff_getElem]
  constructor
  · rintro ⟨hp, i, hi, e, h⟩
    rw [List.getElem_range] at e
    subst e
    rw [List.length_range] at hi
    refine ⟨hi, hp, fun j hj => ?_⟩
    have := h j hj
    rw [List.getElem_range] at this
    simpa using this
  · rintro ⟨h1, h2, h3⟩
    refine ⟨h2, k, by rw [List.length_range]; exact h1, by rw [List.getElem_range], fun j hj => ?_⟩
    rw [List.getElem_range, h3 j hj]
    rfl
theorem step_ex {t : Task} (w : WF t) {s c : Nat} (hs : s < 2 ^ t.facts) (hc : cst t s = some c) (g : t.done s = false) : ∃ k, Step1 t s k := by
  have e := cst_open w hs g
  rw [hc] at e
  rcases minO_mem (t.acts.map (through (cst t) s)) with h | h
  · rw [h] at e; cases e
  · rw [← e] at h
    obtain ⟨a, ha, ea⟩ := List.mem_map.mp h
    obtain ⟨i, hi, ei⟩ := List.getElem_of_mem ha
    have gi : goesBy t s i = true := (goesBy_iff w hi hc).mpr (by rw [act_get hi, ei]; exact ea)
    cases f : (List.range t.acts.length).find? (goesBy t s) with
    | none =>
      have := List.find?_eq_none.mp f i (List.mem_range.mpr hi)
      exact absurd gi this
    | some k =>
      obtain ⟨a, b, c⟩ := find_range.mp f
      exact ⟨k, a, b, c⟩
theorem Step1.find {t : Task} {s k : Nat} (h : Step1 t s k) : (List.range t.acts.length).find? (goesBy t s) = some k := find_range.mpr ⟨h.lt, h.by_, h.first⟩
theorem Step1.val {t : Task} (w : WF t) {s k c : Nat} (h : Step1 t s k) (hc : cst t s = some c) : (t.act k).may s = true ∧ ∃ c', cst t ((t.act k).then_ s) = some c' ∧ c = (t.act k).cost + c' := by
  have e := (goesBy_iff w h.lt hc).mp h.by_
  unfold through at e
  by_cases m : (t.act k).may s = true
  · rw [if_pos m] at e
    cases d : cst t ((t.act k).then_ s) with
    | none => rw [d] at e; cases e
    | some c' =>
      rw [d] at e
      exact ⟨m, c', rfl, (Option.some.inj e).symm⟩
  · rw [if_neg m] at e; cases e
theorem Step1.next {t : Task} (w : WF t) {s k c : Nat} (h : Step1 t s k) (hs : s < 2 ^ t.facts) (hc : cst t s = some c) : (t.act k).then_ s < 2 ^ t.facts ∧ ∃ c', cst t ((t.act k).then_ s) = some c' ∧ c = (t.act k).cost + c' ∧ c' < c := by
  obtain ⟨_, c', h1, h2⟩ := h.val w hc
  have := (w.at (act_mem h.lt)).c1
  exact ⟨then_lt (w.at (act_mem h.lt)) hs, c', h1, h2, by omega⟩
theorem best_done {t : Task} {d : Array (Option Nat)} {s : Nat} (g : t.done s = true) : ∀ n, t.best d n s = []
  | 0 => rfl
  | n + 1 => by
    show (if t.done s = true then [] else _) = _
    rw [if_pos g]
theorem best_step {t : Task} {s k n : Nat} (g : t.done s = false) (h : Step1 t s k) : t.best t.costs (n + 1) s = k :: t.best t.costs n ((t.act k).then_ s) := by
  have f := h.find
  show (if t.done s = true then [] else match (List.range t.acts.length).find? (goesBy t s) with
    | some k => k :: t.best t.costs n ((t.act k).then_ s)
    | none => []) = _
  rw [if_neg (by rw [g]; decide), f]
theorem best_any {t : Task} (w : WF t) : ∀ n m s c, s < 2 ^ t.facts → cst t s = some c → rank t s ≤ n → rank t s ≤ m → t.best t.costs n s = t.best t.costs m s := by
  intro n
  induction n with
  | zero =>
    intro m s c hs hc h1 h2
    by_cases g : t.done s = true
    · rw [best_done g, best_done g]
    · have g : t.done s = false := by simpa using g
      obtain ⟨k, hk⟩ := step_ex w hs hc g
      obtain ⟨h3, c', h4, _, h5⟩ := hk.next w hs hc
      have := rank_lt h3 h4 hc h5
      omega
  | succ n ih =>
    intro m s c hs hc h1 h2
    by_cases g : t.done s = true
    · rw [best_done g, best_done g]
    · have g : t.done s = false := by simpa using g
      obtain ⟨k, hk⟩ := step_ex w hs hc g
      obtain ⟨h3, c', h4, _, h5⟩ := hk.next w hs hc
      have r := rank_lt h3 h4 hc h5
      cases m with
      | zero => omega
      | succ m => rw [best_step g hk, best_step g hk, ih m _ c' h3 h4 (by omega) (by omega)]
/-- the plan from a state -/
def plan (t : Task) (s : Nat) : List Nat := t.best t.costs (2 ^ t.facts) s
theorem plan_done {t : Task} {s : Nat} (g : t.done s = true) : plan t s = [] := best_done g _
theorem plan_step {t : Task} (w : WF t) {s k c : Nat} (hs : s < 2 ^ t.facts) (hc : cst t s = some c) (g : t.done s = false) (h : Step1 t s k) : plan t s = k :: plan t ((t.act k).then_ s) := by
  obtain ⟨h3, c', h4, _, h5⟩ := h.next w hs hc
  have r := rank_lt h3 h4 hc h5
  have r2 := rank_lt_all hs
  have r3 := rank_lt_all h3
  unfold plan
  have e : t.best t.costs (2 ^ t.facts) s = t.best t.costs (2 ^ t.facts + 1) s := best_any w _ _ s c hs hc (by omega) (by omega)
  rw [e, best_step g h]
theorem sum_from : ∀ (l : List Nat) (a : Nat), l.foldl (fun a b => a + b) a = a + l.sum
  | [], a => by simp
  | x :: l, a => by
    show l.foldl (fun a b => a + b) (a + x) = _
    rw [sum_from l, List.sum_cons]
    omega
theorem sum_eq (l : List Nat) : Pn.sum l = l.sum := by
  unfold Pn.sum
  rw [sum_from]
  omega
theorem price_cons (t : Task) (k : Nat) (l : List Nat) : t.price (k :: l) = (t.act k).cost + t.price l := by
  unfold Pn.Task.price
  rw [sum_eq, sum_eq, List.map_cons, List.sum_cons]
theorem plan_price {t : Task} (w : WF t) : ∀ c s, s < 2 ^ t.facts → cst t s = some c → t.price (plan t s) = c := by
  intro c
  induction c using Nat.strongRecOn with
  | _ c ih =>
    intro s hs hc
    by_cases g : t.done s = true
    · rw [plan_done g]
      have := cst_done w hs g
      rw [hc] at this
      cases this
      rfl
    · have g : t.done s = false := by simpa using g
      obtain ⟨k, hk⟩ := step_ex w hs hc g
      obtain ⟨h3, c', h4, h6, h5⟩ := hk.next w hs hc
      rw [plan_step w hs hc g hk, price_cons, ih c' h5 _ h3 h4]
      exact h6.symm
theorem first_eq {t : Task} (w : WF t) (s : Nat) : t.first s = (cst t s).map fun _ => plan t s := by
  unfold Pn.Task.first
  show (match Pn.at_ t.costs s with
    | none => none
    | some _ => some (t.best t.costs (2 ^ t.facts) s)) = _
  rw [at_costs w]
  cases cst t s with
  | none => rfl
  | some c => rfl
/-! ### 6. The table -/
theorem foldl_max : ∀ (l : List (Option Nat)) (m : Nat), m ≤ l.foldl (fun m x => max m (x.getD 0)) m ∧ (∀ x ∈ l, x.getD 0 ≤ l.foldl (fun m x => max m (x.getD 0)) m) ∧ (l.foldl (fun m x => max m (x.getD 0)) m = m ∨ ∃ x ∈ l, l.foldl (fun m x => max m (x.getD 0)) m = x.getD 0)
  | [], m => ⟨Nat.le_refl _, (fun _ h => by cases h), .inl rfl⟩
  | y :: l, m => by
    obtain ⟨h1, h2, h3⟩ := foldl_max l (max m (y.getD 0))
    show m ≤ l.foldl (fun m x => max m (x.getD 0)) (max m (y.getD 0)) ∧ (∀ x ∈ y :: l, x.getD 0 ≤ l.foldl (fun m x => max m (x.getD 0)) (max m (y.getD 0))) ∧ _
    refine ⟨by omega, fun x hx => ?_, ?_⟩
    · rcases List.mem_cons.mp hx with e | hx
      · subst e; omega
      · exact h2 x hx
    · show l.foldl (fun m x => max m (x.getD 0)) (max m (y.getD 0)) = m ∨ ∃ x ∈ y :: l, l.foldl (fun m x => max m (x.getD 0)) (max m (y.getD 0)) = x.getD 0
      rcases h3 with h3 | ⟨x, hx, h3⟩
      · rw [h3]
        by_cases c : m ≤ y.getD 0
        · exact .inr ⟨y, List.mem_cons_self .., by omega⟩
        · exact .inl (by omega)
      · exact .inr ⟨x, List.mem_cons_of_mem _ hx, h3⟩
/-- the greatest of the numbers that are there -/
theorem top_eq {l : List (Option Nat)} {m : Nat} (h1 : some m ∈ l) (h2 : ∀ x, some x ∈ l → x ≤ m) : l.foldl (fun m x => max m (x.getD 0)) 0 = m := by
  obtain ⟨_, g2, g3⟩ := foldl_max l 0
  have a := g2 _ h1
  have a : m ≤ l.foldl (fun m x => max m (x.getD 0)) 0 := a
  rcases g3 with e | ⟨x, hx, e⟩
  · omega
  · cases x with
    | none =>
      have e : l.foldl (fun m x => max m (x.getD 0)) 0 = 0 := e
      omega
    | some x =>
      have e : l.foldl (fun m x => max m (x.getD 0)) 0 = x := e
      have := h2 x hx
      omega
theorem ownTable_eq {t : Task} (w : WF t) {m : Nat} (h1 : some m ∈ rowOf (2 ^ t.facts) (cst t)) (h2 : ∀ x, some x ∈ rowOf (2 ^ t.facts) (cst t) → x ≤ m) : Pn18.ownTable t = (rowOf (2 ^ t.facts) (cst t)).map fun x => x.getD m := by
  unfold Pn18.ownTable
  have e : ((List.range (2 ^ t.facts)).map fun s => Pn.at_ t.costs s) = rowOf (2 ^ t.facts) (cst t) := List.map_congr_left fun s _ => at_costs w s
  show (((List.range (2 ^ t.facts)).map fun s => Pn.at_ t.costs s).map fun x => x.getD (((List.range (2 ^ t.facts)).map fun s => Pn.at_ t.costs s).foldl (fun m x => max m (x.getD 0)) 0)) = _
  rw [e, top_eq h1 h2]
end PC

set_option Elab.async false
namespace PC
open Pn (Act Task)
/-! ### 7. States that can be come to -/
inductive Come (t : Task) : Nat → Prop
  | here : Come t t.start
  | by_ {u : Nat} {a : Act} : Come t u → a ∈ t.acts → a.may u = true → Come t (a.then_ u)
theorem Come.lt {t : Task} (w : WF t) {x : Nat} (h : Come t x) : x < 2 ^ t.facts := by
  induction h with
  | here => exact w.st
  | by_ _ ha _ ih => exact then_lt (w.at ha) ih
theorem sorted_same : ∀ {l m : List Nat}, l.Pairwise (· < ·) → m.Pairwise (· < ·) → (∀ x, x ∈ l ↔ x ∈ m) → l = m
  | [], [], _, _, _ => rfl
  | [], b :: m, _, _, h => by
    have := (h b).mpr (List.mem_cons_self ..)
    cases this
  | a :: l, [], _, _, h => by
    have := (h a).mp (List.mem_cons_self ..)
    cases this
  | a :: l, b :: m, h1, h2, h => by
    obtain ⟨a1, l1⟩ := List.pairwise_cons.mp h1
    obtain ⟨b1, m1⟩ := List.pairwise_cons.mp h2
    have e : a = b := by
      rcases List.mem_cons.mp ((h a).mp (List.mem_cons_self ..)) with e | e
      · exact e
      · rcases List.mem_cons.mp ((h b).mpr (List.mem_cons_self ..)) with g | g
        · exact g.symm
        · have := b1 a e
          have := a1 b g
          omega
    subst e
    rw [sorted_same l1 m1 fun x => ?_]
    constructor
    · intro hx
      rcases List.mem_cons.mp ((h x).mp (List.mem_cons_of_mem _ hx)) with e | e
      · subst e
        have := a1 x hx
        omega
      · exact e
    · intro hx
      rcases List.mem_cons.mp ((h x).mpr (List.mem_cons_of_mem _ hx)) with e | e
      · subst e
        have := b1 x hx
        omega
      · exact e
def among (N : Nat) (p : Nat → Bool) : List Nat := (List.range N).filter p
theorem among_mem {N : Nat} {p : Nat → Bool} {x : Nat} : x ∈ among N p ↔ x < N ∧ p x = true := by
  unfold among
  rw [List.mem_filter, List.mem_range]
theorem among_sorted (N : Nat) (p : Nat → Bool) : (among N p).Pairwise (· < ·) := (List.pairwise_lt_range (n := N)).filter p
theorem among_eq_of {N : Nat} {p q : Nat → Bool} (h : among N p = among N q) {x : Nat} (hx : x < N) : p x = q x := by
  have h1 : x ∈ among N p ↔ x ∈ among N q := by rw [h]
  rw [among_mem, among_mem] at h1
  cases e : p x with
  | true => exact (h1.mp ⟨hx, e⟩).2.symm
  | false =>
    cases f : q x with
    | false => rfl
    | true =>
      have := (h1.mpr ⟨hx, f⟩).2
      rw [e] at this
      cases this
theorem more_ends {t : Task} (w : WF t) : ∀ n (p : Nat → Bool), (∀ x, x < 2 ^ t.facts → p x = true → Come t x) → 2 ^ t.facts ≤ n + (among (2 ^ t.facts) p).length →
    ∃ q, t.more n (among (2 ^ t.facts) p) = among (2 ^ t.facts) q ∧ (∀ x, x < 2 ^ t.facts → p x = true → q x = true) ∧ (∀ x, x < 2 ^ t.facts → q x = true → Come t x) ∧
      ∀ u, u < 2 ^ t.facts → q u = true → ∀ a ∈ t.acts, a.may u = true → q (a.then_ u) = true
  | 0, p, hp, hn => by
    refine ⟨p, rfl, fun _ _ h => h, hp, fun u hu _ a ha _ => ?_⟩
    have hx : a.then_ u < 2 ^ t.facts := then_lt (w.at ha) hu
    cases e : p (a.then_ u) with
    | true => rfl
    | false =>
      have h := filter_lt (p := p) (q := fun _ => true) (l := List.range (2 ^ t.facts)) (fun _ _ _ => rfl) ⟨a.then_ u, List.mem_range.mpr hx, rfl, e⟩
      rw [List.filter_eq_self.mpr (fun _ _ => rfl), List.length_range] at h
      unfold among at hn
      omega
  | n + 1, p, hp, hn => by
    let p' : Nat → Bool := fun s => (among (2 ^ t.facts) p).contains s || (among (2 ^ t.facts) p).any fun u => t.acts.any fun a => a.may u && a.then_ u == s
    have e0 : t.more (n + 1) (among (2 ^ t.facts) p) = if among (2 ^ t.facts) p' = among (2 ^ t.facts) p then among (2 ^ t.facts) p else t.more n (among (2 ^ t.facts) p') := rfl
    have h1 : ∀ x, x < 2 ^ t.facts → p x = true → p' x = true := fun x hx h => by
      have : (among (2 ^ t.facts) p).contains x = true := List.contains_iff_mem.mpr (among_mem.mpr ⟨hx, h⟩)
      show (_ || _) = true
      rw [this]
      rfl
    have h2 : ∀ x, p' x = true → x < 2 ^ t.facts → Come t x := fun x h hx => by
      have h : (_ || _) = true := h
      rcases Bool.or_eq_true_iff.mp h with h | h
      · exact hp x hx (among_mem.mp (List.contains_iff_mem.mp h)).2
      · obtain ⟨u, hu, h⟩ := List.any_eq_true.mp h
        obtain ⟨a, ha, h⟩ := List.any_eq_true.mp h
        obtain ⟨m, e⟩ := Bool.and_eq_true_iff.mp h
        have e := beq_iff_eq.mp e
        rw [← e]
        exact .by_ (hp u (among_mem.mp hu).1 (among_mem.mp hu).2) ha m
    have h3 : ∀ u, u < 2 ^ t.facts → p u = true → ∀ a ∈ t.acts, a.may u = true → p' (a.then_ u) = true := fun u hu hp a ha m => by
      show (_ || _) = true
      refine Bool.or_eq_true_iff.mpr (.inr (List.any_eq_true.mpr ⟨u, among_mem.mpr ⟨hu, hp⟩, List.any_eq_true.mpr ⟨a, ha, ?_⟩⟩))
      rw [m]
      exact beq_self_eq_true _
    rw [e0]
    by_cases e : among (2 ^ t.facts) p' = among (2 ^ t.facts) p
    · rw [if_pos e]
      refine ⟨p, rfl, fun _ _ h => h, hp, fun u hu hq a ha m => ?_⟩
      rw [← among_eq_of e (then_lt (w.at ha) hu)]
      exact h3 u hu hq a ha m
    · rw [if_neg e]
      have hlt : (among (2 ^ t.facts) p).length < (among (2 ^ t.facts) p').length := by
        refine filter_lt (fun x hx h => h1 x (List.mem_range.mp hx) h) ?_
        apply Classical.byContradiction
        intro hc
        refine e (sorted_same (among_sorted _ _) (among_sorted _ _) fun x => ?_)
        rw [among_mem, among_mem]
        constructor
        · rintro ⟨hx, h⟩
          refine ⟨hx, ?_⟩
          cases q : p x with
          | true => rfl
          | false => exact absurd ⟨x, List.mem_range.mpr hx, h, q⟩ hc
        · rintro ⟨hx, h⟩
          exact ⟨hx, h1 x hx h⟩
      obtain ⟨q, q1, q2, q3, q4⟩ := more_ends w n p' (fun x hx h => h2 x h hx) (by omega)
      exact ⟨q, q1, fun x hx h => q2 x hx (h1 x hx h), q3, q4⟩
theorem reach_eq {t : Task} (w : WF t) {l : List Nat} (srt : l.Pairwise (· < ·)) (h : ∀ x, x ∈ l ↔ Come t x) : t.reach t.start = l := by
  have e : [t.start] = among (2 ^ t.facts) (fun x => x == t.start) := sorted_same (List.pairwise_singleton _ _) (among_sorted _ _) fun x => by
    rw [among_mem, List.mem_singleton, beq_iff_eq]
    exact ⟨fun e => ⟨by rw [e]; exact w.st, e⟩, fun e => e.2⟩
  unfold Pn.Task.reach
  rw [e]
  have len : (among (2 ^ t.facts) (fun x => x == t.start)).length = 1 := by rw [← e]; rfl
  obtain ⟨q, q1, q2, q3, q4⟩ := more_ends w (2 ^ t.facts) (fun x => x == t.start) (fun x _ h => by
    rw [beq_iff_eq.mp h]; exact .here) (by omega)
  rw [q1]
  refine sorted_same (among_sorted _ _) srt fun x => ?_
  rw [among_mem, h]
  constructor
  · rintro ⟨hx, hq⟩
    exact q3 x hx hq
  · intro hc
    induction hc with
    | here => exact ⟨w.st, q2 _ w.st (beq_self_eq_true _)⟩
    | by_ hu ha m ih => exact ⟨then_lt (w.at ha) (hu.lt w), q4 _ ih.1 ih.2 _ ha m⟩
/-! ### 8. Clauses -/
open Pn02 (Clause)
/-- all rows of at most two, the fewest first -/
def pairs2 : List Clause → List (List Clause)
  | [] => []
  | c :: l => l.map (fun d => [c, d]) ++ pairs2 l
theorem choices_one : ∀ l : List Clause, Pn02.choices 1 l = l.map fun c => [c]
  | [] => rfl
  | c :: l => by
    have e : Pn02.choices 0 l = [[]] := by cases l <;> (unfold Pn02.choices; rfl)
    show (Pn02.choices 0 l).map (fun x => c :: x) ++ Pn02.choices 1 l = _
    rw [choices_one l, e]
    rfl
theorem choices_two : ∀ l : List Clause, Pn02.choices 2 l = pairs2 l
  | [] => rfl
  | c :: l => by
    show (Pn02.choices 1 l).map (fun x => c :: x) ++ Pn02.choices 2 l = _
    rw [choices_one l, choices_two l, List.map_map]
    rfl
theorem choices_filter (p : Clause → Bool) : ∀ (k : Nat) (l : List Clause), Pn02.choices k (l.filter p) = (Pn02.choices k l).filter fun r => r.all p
  | 0, l => by
    cases l <;> (unfold Pn02.choices; rfl)
  | k + 1, [] => rfl
  | k + 1, c :: l => by
    show _ = ((Pn02.choices k l).map (fun x => c :: x) ++ Pn02.choices (k + 1) l).filter fun r => r.all p
    rw [List.filter_append, ← choices_filter p (k + 1) l, List.filter_map]
    by_cases h : p c = true
    · rw [List.filter_cons_of_pos h]
      show (Pn02.choices k (l.filter p)).map (fun x => c :: x) ++ Pn02.choices (k + 1) (l.filter p) = _
      rw [choices_filter p k l]
      congr 2
      refine List.filter_congr fun x _ => ?_
      show x.all p = (c :: x).all p
      rw [List.all_cons, h, Bool.true_and]
    · rw [List.filter_cons_of_neg h]
      have e : (Pn02.choices k l).filter ((fun r => r.all p) ∘ fun x => c :: x) = [] := by
        rw [List.filter_eq_nil_iff]
        intro x _ hx
        have hx : (c :: x).all p = true := hx
        rw [List.all_cons] at hx
        exact h (Bool.and_eq_true_iff.mp hx).1
      rw [e]
      rfl
def rows (l : List Clause) : List (List Clause) := [[]] ++ l.map (fun c => [c]) ++ pairs2 l
theorem upto_two (l : List Clause) : ((List.range (Pn02.MOST + 1)).flatMap fun k => Pn02.choices k l) = rows l := by
  show (Pn02.choices 0 l ++ (Pn02.choices 1 l ++ (Pn02.choices 2 l ++ []))) = _
  rw [choices_one, choices_two, List.append_nil]
  unfold rows
  rw [List.append_assoc]
  cases l <;> (unfold Pn02.choices; rfl)
theorem models_sub {n : Nat} {r l : List Clause} (h : ∀ c ∈ r, c ∈ l) {s : Nat} (hs : s ∈ Pn02.models n l) : s ∈ Pn02.models n r := by
  unfold Pn02.models at hs ⊢
  rw [List.mem_filter] at hs ⊢
  exact ⟨hs.1, List.all_eq_true.mpr fun c hc => List.all_eq_true.mp hs.2 c (h c hc)⟩
theorem settle_filter {t : Task} : ∀ (n : Nat) (l : List Clause), ∃ p : Clause → Bool, Pn02.settle t n l = l.filter p ∧ ∀ r : List Clause, (∀ c ∈ r, c ∈ l) → r.all (Pn02.kept t (Pn02.models t.facts r)) = true → r.all p = true
  | 0, l => ⟨fun _ => true, by
      rw [List.filter_eq_self.mpr fun _ _ => rfl]
      rfl, fun r _ _ => List.all_eq_true.mpr fun _ _ => rfl⟩
  | n + 1, l => by
    have e0 : Pn02.settle t (n + 1) l = if (l.filter (Pn02.kept t (Pn02.models t.facts l))).length = l.length then l else Pn02.settle t n (l.filter (Pn02.kept t (Pn02.models t.facts l))) := rfl
    by_cases e : (l.filter (Pn02.kept t (Pn02.models t.facts l))).length = l.length
    · rw [e0, if_pos e]
      exact ⟨fun _ => true, by rw [List.filter_eq_self.mpr fun _ _ => rfl], fun r _ _ => List.all_eq_true.mpr fun _ _ => rfl⟩
    · rw [e0, if_neg e]
      obtain ⟨p, h1, h2⟩ := settle_filter (t := t) n (l.filter (Pn02.kept t (Pn02.models t.facts l)))
      refine ⟨fun c => p c && Pn02.kept t (Pn02.models t.facts l) c, by rw [h1, List.filter_filter], fun r hr hk => ?_⟩
      have hk2 : ∀ c ∈ r, Pn02.kept t (Pn02.models t.facts l) c = true := fun c hc => by
        have := List.all_eq_true.mp hk c hc
        unfold Pn02.kept at this ⊢
        exact List.all_eq_true.mpr fun s hs => List.all_eq_true.mp this s (models_sub hr hs)
      have := h2 r (fun c hc => List.mem_filter.mpr ⟨hr c hc, hk2 c hc⟩) hk
      exact List.all_eq_true.mpr fun c hc => by
        show (p c && _) = true
        rw [List.all_eq_true.mp this c hc, hk2 c hc]
        rfl
theorem always_filter (t : Task) : ∃ p : Clause → Bool, Pn02.always t = (Pn02.clauses t.facts).filter p ∧ ∀ r : List Clause, (∀ c ∈ r, c ∈ Pn02.clauses t.facts) → Pn02.proves t r = true → r.all p = true := by
  have e0 : Pn02.always t = Pn02.settle t (((Pn02.clauses t.facts).filter (Pn02.says t.start)).length + 1) ((Pn02.clauses t.facts).filter (Pn02.says t.start)) := rfl
  obtain ⟨p, h1, h2⟩ := settle_filter (t := t) (((Pn02.clauses t.facts).filter (Pn02.says t.start)).length + 1) ((Pn02.clauses t.facts).filter (Pn02.says t.start))
  refine ⟨fun c => p c && Pn02.says t.start c, by rw [e0, h1, List.filter_filter], fun r hr hp => ?_⟩
  have e1 : Pn02.proves t r = (r.all (Pn02.says t.start) && (r.all (Pn02.kept t (Pn02.models t.facts r)) && !(Pn02.models t.facts r).any t.done)) := rfl
  rw [e1, Bool.and_eq_true, Bool.and_eq_true] at hp
  obtain ⟨a, b, _⟩ := hp
  have := h2 r (fun c hc => List.mem_filter.mpr ⟨hr c hc, List.all_eq_true.mp a c hc⟩) b
  exact List.all_eq_true.mpr fun c hc => by
    show (p c && _) = true
    rw [List.all_eq_true.mp this c hc, List.all_eq_true.mp a c hc]
    rfl
theorem choices_mem : ∀ (k : Nat) (l : List Clause) (r : List Clause), r ∈ Pn02.choices k l → ∀ c ∈ r, c ∈ l
  | 0, l, r, h, c, hc => by
    have : r = [] := by
      cases l <;> (unfold Pn02.choices at h; exact List.mem_singleton.mp h)
    subst this
    cases hc
  | k + 1, [], r, h, c, hc => by cases h
  | k + 1, d :: l, r, h, c, hc => by
    have h : r ∈ (Pn02.choices k l).map (fun x => d :: x) ++ Pn02.choices (k + 1) l := h
    rcases List.mem_append.mp h with h | h
    · obtain ⟨x, hx, e⟩ := List.mem_map.mp h
      subst e
      rcases List.mem_cons.mp hc with e | hc
      · rw [e]; exact List.mem_cons_self ..
      · exact List.mem_cons_of_mem _ (choices_mem k l x hx c hc)
    · exact List.mem_cons_of_mem _ (choices_mem (k + 1) l r h c hc)
theorem find_congr {α : Type} {p q : α → Bool} : ∀ {l : List α}, (∀ x ∈ l, p x = q x) → l.find? p = l.find? q
  | [], _ => rfl
  | a :: l, h => by
    rw [List.find?_cons, List.find?_cons, h a (List.mem_cons_self ..), find_congr fun x hx => h x (List.mem_cons_of_mem _ hx)]
theorem proof_eq (t : Task) : Pn02.proof t = (rows (Pn02.clauses t.facts)).find? (Pn02.proves t) := by
  obtain ⟨p, h1, h2⟩ := always_filter t
  have e0 : Pn02.proof t = ((List.range (Pn02.MOST + 1)).flatMap fun k => Pn02.choices k (Pn02.always t)).find? (Pn02.proves t) := rfl
  rw [e0, h1]
  have e1 : ((List.range (Pn02.MOST + 1)).flatMap fun k => Pn02.choices k ((Pn02.clauses t.facts).filter p)) = (rows (Pn02.clauses t.facts)).filter fun r => r.all p := by
    rw [← upto_two, List.filter_flatMap]
    congr 1
    funext k
    exact choices_filter p k _
  rw [e1, List.find?_filter]
  refine find_congr fun r hr => ?_
  have hm : ∀ c ∈ r, c ∈ Pn02.clauses t.facts := by
    rw [← upto_two] at hr
    obtain ⟨k, _, hk⟩ := List.mem_flatMap.mp hr
    exact choices_mem k _ r hk
  cases e : Pn02.proves t r with
  | false => simp
  | true => simp [h2 r hm e]
/-- as the program asks it -/
def holds (r : List Clause) (s : Nat) : Bool := r.all (Pn02.says s)
def leadsOut (t : Task) (r : List Clause) (s : Nat) : Bool := ((t.acts.filter fun a => a.may s).map fun a => a.then_ s).any fun e => !holds r e
def badState (t : Task) (r : List Clause) (s : Nat) : Bool := holds r s && (t.done s || leadsOut t r s)
theorem proves_eq (t : Task) (r : List Clause) : Pn02.proves t r = (holds r t.start && !(List.range (2 ^ t.facts)).any (badState t r)) := by
  have e1 : Pn02.proves t r = (r.all (Pn02.says t.start) && (r.all (Pn02.kept t (Pn02.models t.facts r)) && !(Pn02.models t.facts r).any t.done)) := rfl
  rw [e1]
  show (holds r t.start && _) = _
  congr 1
  rw [Bool.eq_iff_iff]
  simp only [Bool.and_eq_true, Bool.not_eq_true', List.any_eq_false, List.all_eq_true, Pn02.kept, Pn02.models, List.mem_filter, List.mem_range, badState, leadsOut, holds, Bool.or_eq_true, List.any_eq_true, List.mem_map]
  constructor
  · rintro ⟨h1, h2⟩ s hs ⟨h3, h4⟩
    rcases h4 with h4 | ⟨e, ⟨a, ⟨ha, hm⟩, rfl⟩, h4⟩
    · exact h2 s ⟨hs, h3⟩ h4
    · have h4 : ¬ r.all (Pn02.says (a.then_ s)) = true := by
        rw [Bool.not_eq_true]
        simpa using h4
      apply h4
      rw [List.all_eq_true]
      intro c hc
      have := h1 c hc s ⟨hs, h3⟩ a ha
      rw [hm] at this
      simpa using this
  · intro h
    refine ⟨fun c hc s ⟨hs, h3⟩ a ha => ?_, fun s ⟨hs, h3⟩ h4 => h s hs ⟨h3, .inl h4⟩⟩
    cases m : a.may s with
    | false => exact .inl rfl
    | true =>
      cases q : Pn02.says (a.then_ s) c with
      | true => exact .inr rfl
      | false =>
        refine absurd ⟨h3, .inr ⟨a.then_ s, ⟨a, ⟨ha, m⟩, rfl⟩, ?_⟩⟩ (h s hs)
        rw [List.all_eq_false]
        exact ⟨c, hc, by rw [q]; decide⟩
end PC

set_option Elab.async false
namespace PC
open Pn (Act Task)
open Pn03 (Step Values)
/-! ### 9. The worth of facts -/
theorem bit_eq (m k : Nat) : Pn.bit m k = m.testBit k := by
  unfold Pn.bit
  rw [Nat.testBit_eq_decide_div_mod_eq]
  rfl
def stp (t : Task) (k : Nat) : Step := (Pn03.steps t).getD k ⟨[], []⟩
def joinF (d : Fn) (l : List Nat) : Option Nat := l.foldl (fun a f => match a, d f with
  | some x, some y => some (max x y)
  | _, _ => none) (some 0)
theorem join_eq (v : Values) (l : List Nat) : Pn03.join false v l = joinF (Pn03.val v) l := by
  unfold Pn03.join joinF
  congr 1
theorem joinF_from (d : Fn) : ∀ (l : List Nat) (a : Option Nat),
    (a = none → l.foldl (fun a f => match a, d f with | some x, some y => some (max x y) | _, _ => none) a = none) ∧
    (∀ x, a = some x → (∃ f ∈ l, d f = none) → l.foldl (fun a f => match a, d f with | some x, some y => some (max x y) | _, _ => none) a = none) ∧
    (∀ x, a = some x → (∀ f ∈ l, ∃ y, d f = some y) → ∃ m, l.foldl (fun a f => match a, d f with | some x, some y => some (max x y) | _, _ => none) a = some m ∧ x ≤ m ∧ (∀ f ∈ l, ∃ y, d f = some y ∧ y ≤ m) ∧ (m = x ∨ ∃ f ∈ l, d f = some m))
  | [], a => ⟨fun h => h, (fun x _ ⟨f, h, _⟩ => by cases h), fun x h _ => ⟨x, h, Nat.le_refl _, (fun _ h => by cases h), .inl rfl⟩⟩
  | g :: l, a => by
    rw [List.foldl_cons]
    refine ⟨fun h => ?_, fun x h ⟨f, hf, e⟩ => ?_, fun x h hl => ?_⟩
    · subst h
      exact (joinF_from d l none).1 rfl
    · subst h
      rcases List.mem_cons.mp hf with q | hf
      · subst q
        rw [e]
        exact (joinF_from d l none).1 rfl
      · cases q : d g with
        | none => exact (joinF_from d l none).1 rfl
        | some y => exact (joinF_from d l (some (max x y))).2.1 _ rfl ⟨f, hf, e⟩
    · subst h
      obtain ⟨y, hy⟩ := hl g (List.mem_cons_self ..)
      rw [hy]
      obtain ⟨m, h1, h2, h3, h4⟩ := (joinF_from d l (some (max x y))).2.2 _ rfl fun f hf => hl f (List.mem_cons_of_mem _ hf)
      refine ⟨m, h1, by omega, fun f hf => ?_, ?_⟩
      · rcases List.mem_cons.mp hf with q | hf
        · subst q
          exact ⟨y, hy, by omega⟩
        · exact h3 f hf
      · rcases h4 with e | ⟨f, hf, e⟩
        · by_cases c : y ≤ x
          · exact .inl (by omega)
          · exact .inr ⟨g, List.mem_cons_self .., by rw [hy]; congr 1; omega⟩
        · exact .inr ⟨f, List.mem_cons_of_mem _ hf, e⟩
theorem joinF_none {d : Fn} {l : List Nat} (h : ∃ f ∈ l, d f = none) : joinF d l = none := (joinF_from d l (some 0)).2.1 0 rfl h
theorem joinF_some {d : Fn} {l : List Nat} (h : ∀ f ∈ l, ∃ y, d f = some y) : ∃ m, joinF d l = some m ∧ (∀ f ∈ l, ∃ y, d f = some y ∧ y ≤ m) ∧ (m = 0 ∨ ∃ f ∈ l, d f = some m) := by
  obtain ⟨m, a, _, b, c⟩ := (joinF_from d l (some 0)).2.2 0 rfl h
  exact ⟨m, a, b, c⟩
theorem joinF_inv {d : Fn} {l : List Nat} {m : Nat} (h : joinF d l = some m) : (∀ f ∈ l, ∃ y, d f = some y ∧ y ≤ m) ∧ (m = 0 ∨ ∃ f ∈ l, d f = some m) := by
  have hall : ∀ f ∈ l, ∃ y, d f = some y := fun f hf => by
    cases e : d f with
    | some y => exact ⟨y, rfl⟩
    | none =>
      rw [joinF_none ⟨f, hf, e⟩] at h
      cases h
  obtain ⟨m', a, b, c⟩ := joinF_some hall
  rw [a] at h
  cases h
  exact ⟨b, c⟩
theorem joinF_ne {d : Fn} {l : List Nat} {m : Nat} (ne : l ≠ []) (h : joinF d l = some m) : ∃ f ∈ l, d f = some m := by
  obtain ⟨h1, h2⟩ := joinF_inv h
  rcases h2 with e | h2
  · subst e
    cases l with
    | nil => exact absurd rfl ne
    | cons a l =>
      obtain ⟨y, e, le⟩ := h1 a (List.mem_cons_self ..)
      have : y = 0 := by omega
      subst this
      exact ⟨a, List.mem_cons_self .., e⟩
  · exact h2
theorem joinF_ole {d : Fn} {l : List Nat} {f : Nat} (h : f ∈ l) : Ole (d f) (joinF d l) := fun m hm => by
  obtain ⟨y, e, le⟩ := (joinF_inv hm).1 f h
  exact ⟨y, e, le⟩
theorem joinF_mono {d d' : Fn} {l : List Nat} (h : ∀ f ∈ l, Ole (d f) (d' f)) : Ole (joinF d l) (joinF d' l) := fun m' hm' => by
  obtain ⟨h1, h2⟩ := joinF_inv hm'
  obtain ⟨m, a, b, c⟩ := joinF_some (d := d) (l := l) fun f hf => by
    obtain ⟨y, e, _⟩ := h1 f hf
    obtain ⟨x, e, _⟩ := h f hf y e
    exact ⟨x, e⟩
  refine ⟨m, a, ?_⟩
  rcases c with c | ⟨f, hf, c⟩
  · omega
  · obtain ⟨y, e, le⟩ := h1 f hf
    obtain ⟨x, e2, le2⟩ := h f hf y e
    rw [c] at e2
    cases e2
    omega
def soB (t : Task) (s f : Nat) : Bool := decide (f = t.facts) || (decide (f < t.facts) && s.testBit f)
def wayW (t : Task) (c : List Nat) (d : Fn) (f k : Nat) : Option Nat := if (stp t k).add.contains f = true then (joinF d (stp t k).pre).map (fun p => p + c.getD k 0) else none
def stepW (t : Task) (c : List Nat) (s : Nat) (d : Fn) : Fn := fun f => if f < t.facts + 2 then (if soB t s f = true then some 0 else minO ((List.range (Pn03.steps t).length).map (wayW t c d f))) else none
theorem map_add_comm (a : Option Nat) (c : Nat) : a.map (fun p => p + c) = a.map (fun p => c + p) := by
  cases a with
  | none => rfl
  | some x => exact congrArg some (Nat.add_comm _ _)
theorem facts_mem {n m f : Nat} : f ∈ Pn03.facts n m ↔ f < n ∧ m.testBit f = true := by
  unfold Pn03.facts
  rw [List.mem_filter, List.mem_range, bit_eq]
/-- the rows of needed facts are never empty, and among the facts *)-/
structure StepOk (n : Nat) (x : Step) : Prop where
  ne : x.pre ≠ []
  le : ∀ f ∈ x.pre, f ≤ n
  ad : ∀ f ∈ x.add, f ≤ n + 1
theorem or_ne {n : Nat} {l : List Nat} : (if l = [] then [n] else l) ≠ [] := by
  by_cases h : l = []
  · rw [if_pos h]
    intro e
    cases e
  · rw [if_neg h]
    exact h
theorem or_le {n m : Nat} : ∀ f ∈ (if Pn03.facts n m = [] then [n] else Pn03.facts n m), f ≤ n := by
  intro f hf
  by_cases h : Pn03.facts n m = []
  · rw [if_pos h] at hf
    rw [List.mem_singleton.mp hf]
    exact Nat.le_refl _
  · rw [if_neg h] at hf
    exact Nat.le_of_lt (facts_mem.mp hf).1
theorem steps_len (t : Task) : (Pn03.steps t).length = t.acts.length + 1 := by
  unfold Pn03.steps
  simp
theorem stp_act {t : Task} {k : Nat} (h : k < t.acts.length) : stp t k = Pn03.stepOf t.facts (t.act k) := by
  unfold stp Pn03.steps
  rw [act_get h, List.getD_eq_getElem?_getD, List.getElem?_append_left (by rw [List.length_map]; exact h), List.getElem?_map, List.getElem?_eq_getElem h]
  rfl
theorem stp_goal (t : Task) : stp t t.acts.length = ⟨if Pn03.facts t.facts t.goal = [] then [t.facts] else Pn03.facts t.facts t.goal, [t.facts + 1]⟩ := by
  unfold stp Pn03.steps
  simp
theorem stp_ok {t : Task} {k : Nat} (h : k < (Pn03.steps t).length) : StepOk t.facts (stp t k) := by
  rw [steps_len] at h
  by_cases c : k < t.acts.length
  · rw [stp_act c]
    exact ⟨or_ne, or_le, fun f hf => by
      have := (facts_mem.mp hf).1
      omega⟩
  · have e : k = t.acts.length := by omega
    subst e
    rw [stp_goal]
    exact ⟨or_ne, or_le, fun f hf => by
      rw [List.mem_singleton.mp hf]
      exact Nat.le_refl _⟩
theorem wayW_mono {t : Task} {c : List Nat} {d d' : Fn} (h : ∀ f, Ole (d f) (d' f)) (f k : Nat) : Ole (wayW t c d f k) (wayW t c d' f k) := by
  unfold wayW
  by_cases m : (stp t k).add.contains f = true
  · rw [if_pos m, if_pos m, map_add_comm, map_add_comm]
    exact ole_map_add _ (joinF_mono fun f _ => h f)
  · rw [if_neg m, if_neg m]
    exact Ole.none _
theorem falls_worths (t : Task) (c : List Nat) (s : Nat) : Falls (t.facts + 2) (stepW t c s) where
  mono := fun d d' h f => by
    unfold stepW
    by_cases hf : f < t.facts + 2
    · rw [if_pos hf, if_pos hf]
      by_cases g : soB t s f = true
      · rw [if_pos g, if_pos g]; exact Ole.refl _
      · rw [if_neg g, if_neg g]
        exact minO_mono _ _ _ fun k _ => wayW_mono h f k
    · rw [if_neg hf, if_neg hf]
      exact Ole.none _
  sel := fun d d' h f hf hn => by
    unfold stepW at hn ⊢
    rw [if_pos hf, if_pos hf] at hn
    rw [if_pos hf]
    by_cases g : soB t s f = true
    · rw [if_pos g, if_pos g] at hn
      exact absurd (Ole.refl _) hn
    · rw [if_neg g, if_neg g] at hn
      rw [if_neg g]
      rcases minO_mem ((List.range (Pn03.steps t).length).map (wayW t c d f)) with e | e
      · rw [e] at hn
        exact absurd (Ole.none _) hn
      · obtain ⟨k, hk, e⟩ := List.mem_map.mp e
        rw [← e] at hn ⊢
        have h1 : ¬ Ole (wayW t c d' f k) (wayW t c d f k) := fun q => hn ((minO_le (List.mem_map.mpr ⟨k, hk, rfl⟩)).trans q)
        unfold wayW at h1 ⊢
        by_cases m : (stp t k).add.contains f = true
        · rw [if_pos m, if_pos m] at h1
          rw [if_pos m]
          have h2 : ¬ Ole (joinF d' (stp t k).pre) (joinF d (stp t k).pre) := fun q => h1 (by
            rw [map_add_comm, map_add_comm]
            exact ole_map_add _ q)
          have h3 : ∃ g ∈ (stp t k).pre, ¬ Ole (d' g) (d g) := by
            apply Classical.byContradiction
            intro hc
            refine h2 (joinF_mono fun g hg => ?_)
            apply Classical.byContradiction
            intro hq
            exact hc ⟨g, hg, hq⟩
          obtain ⟨g, hg, hq⟩ := h3
          refine ⟨g, ?_, hq, (joinF_ole hg).trans ?_⟩
          · have := (stp_ok (List.mem_range.mp hk)).le g hg
            omega
          · rw [map_add_comm]
            exact ole_add_left _
        · rw [if_neg m, if_neg m] at h1
          exact absurd (Ole.refl _) h1
  out := fun d f hf => by
    unfold stepW
    rw [if_neg (by omega)]
abbrev wr (t : Task) (c : List Nat) (s k : Nat) : Fn := rnd (stepW t c s) k
def wst (t : Task) (c : List Nat) (s : Nat) : Fn := rnd (stepW t c s) (t.facts + 2)
theorem stepW_so {t : Task} {c : List Nat} {s : Nat} {d : Fn} {f : Nat} (h : f < t.facts + 2) (g : soB t s f = true) : stepW t c s d f = some 0 := by
  unfold stepW
  rw [if_pos h, if_pos g]
theorem stepW_not {t : Task} {c : List Nat} {s : Nat} {d : Fn} {f : Nat} (h : f < t.facts + 2) (g : soB t s f = false) : stepW t c s d f = minO ((List.range (Pn03.steps t).length).map (wayW t c d f)) := by
  unfold stepW
  rw [if_pos h, if_neg (by rw [g]; decide)]
theorem wr_out (t : Task) (c : List Nat) (s k f : Nat) (h : t.facts + 2 ≤ f) : wr t c s k f = none := by
  cases k with
  | zero => rfl
  | succ n => exact (falls_worths t c s).out _ _ h
theorem val_row {n : Nat} {f : Fn} (h : ∀ s, n ≤ s → f s = none) : Pn03.val (rowOf n f) = f := by
  funext s
  unfold Pn03.val
  rw [List.getD_eq_getElem?_getD]
  by_cases hs : s < n
  · rw [rowOf_get hs]
    rfl
  · rw [List.getElem?_eq_none (by rw [rowOf_len]; omega), h s (by omega)]
    rfl
theorem first_row (t : Task) (c : List Nat) (s : Nat) : Pn03.first t s = rowOf (t.facts + 2) (wr t c s 1) := by
  unfold Pn03.first rowOf
  refine List.map_congr_left fun f hf => ?_
  have hf : f < t.facts + 2 := List.mem_range.mp hf
  rw [bit_eq]
  by_cases g : soB t s f = true
  · rw [show wr t c s 1 f = some 0 from stepW_so hf g, if_pos]
    unfold soB at g
    simpa using g
  · have e : wr t c s 1 f = none := by
      rw [show wr t c s 1 f = _ from stepW_not hf (by simpa using g)]
      refine minO_eq (fun x hx => ?_) (.inl rfl)
      obtain ⟨k, hk, e⟩ := List.mem_map.mp hx
      rw [← e]
      unfold wayW
      by_cases m : (stp t k).add.contains f = true
      · rw [if_pos m, joinF_none]
        · exact Ole.none _
        · have o := stp_ok (List.mem_range.mp hk)
          cases q : (stp t k).pre with
          | nil => exact absurd q o.ne
          | cons a l => exact ⟨a, List.mem_cons_self .., rfl⟩
      · rw [if_neg m]; exact Ole.none _
    rw [e, if_neg]
    unfold soB at g
    simpa using g
theorem roundW_row (t : Task) (c : List Nat) (s k : Nat) : Pn03.round false (Pn03.steps t) c (rowOf (t.facts + 2) (wr t c s (k + 1))) = rowOf (t.facts + 2) (wr t c s (k + 2)) := by
  unfold Pn03.round
  rw [rowOf_len, val_row (fun f h => wr_out t c s _ f h)]
  refine List.map_congr_left fun f hf => ?_
  have hf : f < t.facts + 2 := List.mem_range.mp hf
  have e : (fun (b : Option Nat) (k_1 : Nat) => (let x := (Pn03.steps t).getD k_1 ⟨[], []⟩; if x.add.contains f = true then Pn.least b ((Pn03.join false (rowOf (t.facts + 2) (wr t c s (k + 1))) x.pre).map fun p => p + c.getD k_1 0) else b)) = fun b j => if (stp t j).add.contains f = true then Pn.least b ((joinF (wr t c s (k + 1)) (stp t j).pre).map fun p => p + c.getD j 0) else b := by
    funext b j
    show (if (stp t j).add.contains f = true then Pn.least b ((Pn03.join false (rowOf (t.facts + 2) (wr t c s (k + 1))) (stp t j).pre).map fun p => p + c.getD j 0) else b) = _
    rw [join_eq, val_row (fun f h => wr_out t c s _ f h)]
  rw [e, fold_least_if (fun j : Nat => (stp t j).add.contains f = true) (fun j : Nat => (joinF (wr t c s (k + 1)) (stp t j).pre).map fun p => p + c.getD j 0), fold_from]
  show Pn.least (wr t c s (k + 1) f) (minO ((List.range (Pn03.steps t).length).map (wayW t c (wr t c s (k + 1)) f))) = wr t c s (k + 2) f
  by_cases g : soB t s f = true
  · rw [show wr t c s (k + 1) f = some 0 from stepW_so hf g, show wr t c s (k + 2) f = some 0 from stepW_so hf g]
    exact Ole.anti (least_l _ _) (Ole.zero _)
  · have d := rnd_down (falls_worths t c s) (k + 1) f
    have e2 : wr t c s (k + 2) f = _ := stepW_not hf (by simpa using g)
    rw [← e2]
    exact least_of_ole d
theorem times_row (t : Task) (c : List Nat) (s : Nat) : ∀ n k, Pn03.times (Pn03.round false (Pn03.steps t) c) n (rowOf (t.facts + 2) (wr t c s (k + 1))) = rowOf (t.facts + 2) (wr t c s (k + 1 + n))
  | 0, _ => rfl
  | n + 1, k => by
    show (if Pn03.round false (Pn03.steps t) c (rowOf (t.facts + 2) (wr t c s (k + 1))) = rowOf (t.facts + 2) (wr t c s (k + 1)) then rowOf (t.facts + 2) (wr t c s (k + 1)) else Pn03.times (Pn03.round false (Pn03.steps t) c) n (Pn03.round false (Pn03.steps t) c (rowOf (t.facts + 2) (wr t c s (k + 1))))) = _
    rw [roundW_row]
    by_cases e : rowOf (t.facts + 2) (wr t c s (k + 2)) = rowOf (t.facts + 2) (wr t c s (k + 1))
    · rw [if_pos e]
      have e2 := rnd_same_of_list (falls_worths t c s) e
      have e3 := rnd_stays e2 (n + 1)
      show _ = rowOf (t.facts + 2) (rnd (stepW t c s) (k + 1 + (n + 1)))
      rw [e3]
    · rw [if_neg e, times_row t c s n (k + 1), show k + 1 + 1 + n = k + 1 + (n + 1) by omega]
theorem values_eq (t : Task) (c : List Nat) (s : Nat) : Pn03.values false t c s = rowOf (t.facts + 2) (wst t c s) := by
  unfold Pn03.values
  rw [first_row t c s, times_row, show 0 + 1 + (t.facts + 3) = t.facts + 4 by omega]
  show rowOf (t.facts + 2) (rnd (stepW t c s) (t.facts + 4)) = _
  rw [rnd_late (falls_worths t c s) (show t.facts + 2 ≤ t.facts + 4 by omega)]
  rfl
theorem wst_out (t : Task) (c : List Nat) (s f : Nat) (h : t.facts + 2 ≤ f) : wst t c s f = none := wr_out t c s _ f h
theorem val_values (t : Task) (c : List Nat) (s : Nat) : Pn03.val (Pn03.values false t c s) = wst t c s := by
  rw [values_eq]
  exact val_row (wst_out t c s)
theorem wst_fix (t : Task) (c : List Nat) (s : Nat) : stepW t c s (wst t c s) = wst t c s := rnd_fix (falls_worths t c s)
theorem wr_end {t : Task} {c : List Nat} {s k : Nat} (e : rowOf (t.facts + 2) (wr t c s (k + 1)) = rowOf (t.facts + 2) (wr t c s k)) : rowOf (t.facts + 2) (wr t c s (k + 1)) = rowOf (t.facts + 2) (wst t c s) := by
  have e1 := rnd_same_of_list (falls_worths t c s) e
  show rowOf _ (rnd (stepW t c s) (k + 1)) = _
  rw [e1, rnd_end (falls_worths t c s) e1]
  rfl
theorem wr_soon {t : Task} {c : List Nat} {s k : Nat} (h : t.facts + 2 ≤ k) : rowOf (t.facts + 2) (wr t c s (k + 1)) = rowOf (t.facts + 2) (wr t c s k) := by
  show rowOf _ (rnd (stepW t c s) (k + 1)) = rowOf _ (rnd (stepW t c s) k)
  rw [rnd_late (falls_worths t c s) h, rnd_late (falls_worths t c s) (show t.facts + 2 ≤ k + 1 by omega)]
end PC

set_option Elab.async false
namespace PC
open Pn (Act Task)
open Pn03 (Step Values)
/-! ### 10. Lists that grow till nothing is new -/
def dedup (l : List Nat) : List Nat := l.foldl (fun (m : List Nat) f => if m.contains f then m else m ++ [f]) []
theorem dedup_from : ∀ (l m : List Nat), m.Nodup → (l.foldl (fun (m : List Nat) f => if m.contains f then m else m ++ [f]) m).Nodup ∧ ∀ x, x ∈ l.foldl (fun (m : List Nat) f => if m.contains f then m else m ++ [f]) m ↔ x ∈ m ∨ x ∈ l
  | [], m, nd => ⟨nd, fun x => ⟨.inl, fun h => h.elim id (fun h => by cases h)⟩⟩
  | a :: l, m, nd => by
    rw [List.foldl_cons]
    by_cases c : m.contains a = true
    · rw [if_pos c]
      obtain ⟨h1, h2⟩ := dedup_from l m nd
      refine ⟨h1, fun x => ?_⟩
      rw [h2, List.mem_cons]
      have : a ∈ m := List.contains_iff_mem.mp c
      constructor
      · rintro (h | h)
        · exact .inl h
        · exact .inr (.inr h)
      · rintro (h | h | h)
        · exact .inl h
        · rw [h]; exact .inl this
        · exact .inr h
    · rw [if_neg c]
      have hn : a ∉ m := fun h => c (List.contains_iff_mem.mpr h)
      have nd2 : (m ++ [a]).Nodup := by
        rw [List.nodup_append]
        refine ⟨nd, List.nodup_cons.mpr ⟨List.not_mem_nil, List.nodup_nil⟩, fun x hx y hy e => ?_⟩
        rw [List.mem_singleton.mp hy] at e
        exact hn (e ▸ hx)
      obtain ⟨h1, h2⟩ := dedup_from l (m ++ [a]) nd2
      refine ⟨h1, fun x => ?_⟩
      rw [h2, List.mem_append, List.mem_singleton, List.mem_cons, or_assoc]
theorem dedup_nodup (l : List Nat) : (dedup l).Nodup := (dedup_from l [] List.nodup_nil).1
theorem dedup_mem {l : List Nat} {x : Nat} : x ∈ dedup l ↔ x ∈ l := by
  have := (dedup_from l [] List.nodup_nil).2 x
  unfold dedup
  rw [this]
  exact ⟨fun h => h.elim (fun h => by cases h) id, .inr⟩
def grow (new : List Nat → List Nat) : Nat → List Nat → List Nat
  | 0, z => z
  | n + 1, z => grow new n (z ++ dedup (new z))
structure Grows (N : Nat) (new : List Nat → List Nat) : Prop where
  lt : ∀ z, (∀ x ∈ z, x < N) → ∀ x ∈ new z, x < N
  nw : ∀ z, ∀ x ∈ new z, x ∉ z
theorem grow_stays {new : List Nat → List Nat} {z : List Nat} (e : new z = []) : ∀ n, grow new n z = z
  | 0 => rfl
  | n + 1 => by
    show grow new n (z ++ dedup (new z)) = z
    rw [e]
    show grow new n (z ++ []) = z
    rw [List.append_nil, grow_stays e n]
theorem grow_ends {N : Nat} {new : List Nat → List Nat} (G : Grows N new) : ∀ n z, z.Nodup → (∀ x ∈ z, x < N) → N ≤ n + z.length → new (grow new n z) = []
  | 0, z, nd, lt, h => by
    show new z = []
    cases e : new z with
    | nil => rfl
    | cons a l =>
      have ha : a ∈ new z := by rw [e]; exact List.mem_cons_self ..
      have := nodup_len N (a :: z) (List.nodup_cons.mpr ⟨G.nw z a ha, nd⟩) (fun x hx => by
        rcases List.mem_cons.mp hx with q | hx
        · rw [q]; exact G.lt z lt a ha
        · exact lt x hx)
      rw [List.length_cons] at this
      omega
  | n + 1, z, nd, lt, h => by
    by_cases e : new z = []
    · rw [grow_stays e]
      exact e
    · show new (grow new n (z ++ dedup (new z))) = []
      refine grow_ends G n _ ?_ (fun x hx => ?_) ?_
      · rw [List.nodup_append]
        exact ⟨nd, dedup_nodup _, fun x hx y hy q => G.nw z y (dedup_mem.mp hy) (q ▸ hx)⟩
      · rcases List.mem_append.mp hx with hx | hx
        · exact lt x hx
        · exact G.lt z lt x (dedup_mem.mp hx)
      · rw [List.length_append]
        have : 0 < (dedup (new z)).length := by
          cases q : new z with
          | nil => exact absurd q e
          | cons a l =>
            have : a ∈ dedup (a :: l) := dedup_mem.mpr (List.mem_cons_self ..)
            exact List.length_pos_of_mem this
        omega
theorem grow_sub {new : List Nat → List Nat} {P : Nat → Prop} (h : ∀ z, (∀ x ∈ z, P x) → ∀ x ∈ new z, P x) : ∀ n z, (∀ x ∈ z, P x) → ∀ x ∈ grow new n z, P x
  | 0, _, hz => hz
  | n + 1, z, hz => grow_sub h n _ fun x hx => by
    rcases List.mem_append.mp hx with hx | hx
    · exact hz x hx
    · exact h z hz x (dedup_mem.mp hx)
theorem grow_sup {new : List Nat → List Nat} : ∀ n z, ∀ x ∈ z, x ∈ grow new n z
  | 0, _, _, h => h
  | n + 1, z, x, h => grow_sup n _ x (List.mem_append_left _ h)
/-! ### 11. The zone, before the zone, the cut -/
section
variable (t : Task) (c : List Nat) (s : Nat)
def dearF (d : Fn) (l : List Nat) : Option Nat := match joinF d l with
  | none => none
  | some m => l.find? fun f => d f == some m
/-- the dear fact of the k-th act, what's wanted the last -/
def dearK (k : Nat) : Option Nat := dearF (wst t c s) (stp t k).pre
inductive Zn : Nat → Prop
  | end_ : Zn (t.facts + 1)
  | dear {k f g : Nat} : k < (Pn03.steps t).length → dearK t c s k = some f → c.getD k 0 = 0 → g ∈ (stp t k).add → Zn g → Zn f
inductive Bf : Nat → Prop
  | so {f : Nat} : soB t s f = true → Bf f
  | brings {k f g : Nat} : k < (Pn03.steps t).length → dearK t c s k = some f → Bf f → g ∈ (stp t k).add → ¬ Zn t c s g → Bf g
def InCut (k : Nat) : Prop := k < (Pn03.steps t).length ∧ ∃ f, dearK t c s k = some f ∧ Bf t c s f ∧ ∃ g ∈ (stp t k).add, Zn t c s g
end
section
variable {t : Task} {c : List Nat} {s : Nat}
theorem dear_eq (k : Nat) : Pn03.dear (Pn03.values false t c s) ((Pn03.steps t).getD k ⟨[], []⟩) = dearK t c s k := by
  unfold Pn03.dear dearK dearF
  rw [join_eq, val_values]
  rfl
theorem dearF_inv {d : Fn} {l : List Nat} {f : Nat} (h : dearF d l = some f) : f ∈ l ∧ ∃ m, joinF d l = some m ∧ d f = some m := by
  unfold dearF at h
  cases e : joinF d l with
  | none => rw [e] at h; cases h
  | some m =>
    rw [e] at h
    exact ⟨List.mem_of_find?_eq_some h, m, rfl, beq_iff_eq.mp (List.find?_some (p := fun f => d f == some m) h)⟩
theorem dearF_ex {d : Fn} {l : List Nat} {m : Nat} (ne : l ≠ []) (h : joinF d l = some m) : ∃ f, dearF d l = some f := by
  unfold dearF
  rw [h]
  obtain ⟨f, hf, e⟩ := joinF_ne ne h
  cases q : l.find? fun f => d f == some m with
  | some g => exact ⟨g, q⟩
  | none =>
    have := List.find?_eq_none.mp q f hf
    rw [e] at this
    exact absurd (beq_self_eq_true _) this
theorem dearK_le {k f : Nat} (hk : k < (Pn03.steps t).length) (h : dearK t c s k = some f) : f ≤ t.facts := (stp_ok hk).le f (dearF_inv h).1
def newZ (t : Task) (c : List Nat) (s : Nat) (z : List Nat) : List Nat := (List.range (Pn03.steps t).length).filterMap fun k => match dearK t c s k with
  | some f => if c.getD k 0 = 0 ∧ ((stp t k).add.any z.contains) = true ∧ z.contains f = false then some f else none
  | none => none
def newB (t : Task) (c : List Nat) (s : Nat) (z : List Nat) (b : List Nat) : List Nat := (List.range (Pn03.steps t).length).flatMap fun k => match dearK t c s k with
  | some f => if b.contains f = true then (stp t k).add.filter fun g => !z.contains g && !b.contains g else []
  | none => []
theorem zone_grow (goal : Nat) : ∀ n z, Pn03.zone (Pn03.steps t) c (Pn03.values false t c s) goal n z = grow (newZ t c s) n z
  | 0, _ => rfl
  | n + 1, z => by
    have e : newZ t c s z = ((List.range (Pn03.steps t).length).filterMap fun k => match Pn03.dear (Pn03.values false t c s) ((Pn03.steps t).getD k ⟨[], []⟩) with
      | some f => if c.getD k 0 = 0 ∧ (((Pn03.steps t).getD k ⟨[], []⟩).add.any z.contains) = true ∧ z.contains f = false then some f else none
      | none => none) := by
      unfold newZ
      congr 1
      funext k
      rw [dear_eq]
      rfl
    show Pn03.zone (Pn03.steps t) c (Pn03.values false t c s) goal n _ = grow (newZ t c s) n (z ++ dedup (newZ t c s z))
    rw [e, ← zone_grow goal n]
    rfl
theorem before_grow (z : List Nat) : ∀ n b, Pn03.before (Pn03.steps t) (Pn03.values false t c s) z n b = grow (newB t c s z) n b
  | 0, _ => rfl
  | n + 1, b => by
    have e : newB t c s z b = ((List.range (Pn03.steps t).length).flatMap fun k => match Pn03.dear (Pn03.values false t c s) ((Pn03.steps t).getD k ⟨[], []⟩) with
      | some f => if b.contains f = true then ((Pn03.steps t).getD k ⟨[], []⟩).add.filter fun g => !z.contains g && !b.contains g else []
      | none => []) := by
      unfold newB
      congr 1
      funext k
      rw [dear_eq]
      rfl
    show Pn03.before (Pn03.steps t) (Pn03.values false t c s) z n _ = grow (newB t c s z) n (b ++ dedup (newB t c s z b))
    rw [e, ← before_grow z n]
    rfl
theorem newZ_mem {z : List Nat} {x : Nat} : x ∈ newZ t c s z ↔ ∃ k, k < (Pn03.steps t).length ∧ dearK t c s k = some x ∧ c.getD k 0 = 0 ∧ (∃ g ∈ (stp t k).add, g ∈ z) ∧ x ∉ z := by
  unfold newZ
  rw [List.mem_filterMap]
  constructor
  · rintro ⟨k, hk, h⟩
    cases e : dearK t c s k with
    | none => rw [e] at h; cases h
    | some f =>
      rw [e] at h
      have h : (if c.getD k 0 = 0 ∧ ((stp t k).add.any z.contains) = true ∧ z.contains f = false then some f else none) = some x := h
      by_cases q : c.getD k 0 = 0 ∧ ((stp t k).add.any z.contains) = true ∧ z.contains f = false
      · rw [if_pos q] at h
        cases h
        obtain ⟨g, hg, hz⟩ := List.any_eq_true.mp q.2.1
        exact ⟨k, List.mem_range.mp hk, e, q.1, ⟨g, hg, List.contains_iff_mem.mp hz⟩, fun hx => by
          rw [List.contains_iff_mem.mpr hx] at q
          cases q.2.2⟩
      · rw [if_neg q] at h; cases h
  · rintro ⟨k, hk, e, h0, ⟨g, hg, hz⟩, hx⟩
    refine ⟨k, List.mem_range.mpr hk, ?_⟩
    rw [e]
    show (if c.getD k 0 = 0 ∧ ((stp t k).add.any z.contains) = true ∧ z.contains x = false then some x else none) = some x
    have hc : z.contains x = false := by
      cases q : z.contains x with
      | false => rfl
      | true => exact absurd (List.contains_iff_mem.mp q) hx
    exact if_pos ⟨h0, List.any_eq_true.mpr ⟨g, hg, List.contains_iff_mem.mpr hz⟩, hc⟩
theorem newB_mem {z b : List Nat} {x : Nat} : x ∈ newB t c s z b ↔ ∃ k f, k < (Pn03.steps t).length ∧ dearK t c s k = some f ∧ f ∈ b ∧ x ∈ (stp t k).add ∧ x ∉ z ∧ x ∉ b := by
  unfold newB
  rw [List.mem_flatMap]
  constructor
  · rintro ⟨k, hk, h⟩
    cases e : dearK t c s k with
    | none => rw [e] at h; cases h
    | some f =>
      rw [e] at h
      have h : x ∈ (if b.contains f = true then (stp t k).add.filter fun g => !z.contains g && !b.contains g else []) := h
      by_cases q : b.contains f = true
      · rw [if_pos q, List.mem_filter] at h
        have h2 := h.2
        simp only [Bool.and_eq_true, Bool.not_eq_true', ← Bool.not_eq_true, List.contains_iff_mem] at h2
        exact ⟨k, f, List.mem_range.mp hk, e, List.contains_iff_mem.mp q, h.1, h2.1, h2.2⟩
      · rw [if_neg q] at h; cases h
  · rintro ⟨k, f, hk, e, hf, hx, h1, h2⟩
    refine ⟨k, List.mem_range.mpr hk, ?_⟩
    rw [e]
    show x ∈ (if b.contains f = true then (stp t k).add.filter fun g => !z.contains g && !b.contains g else [])
    rw [if_pos (List.contains_iff_mem.mpr hf), List.mem_filter]
    refine ⟨hx, ?_⟩
    simp only [Bool.and_eq_true, Bool.not_eq_true', ← Bool.not_eq_true, List.contains_iff_mem]
    exact ⟨h1, h2⟩
def zoneL (t : Task) (c : List Nat) (s : Nat) : List Nat := Pn03.zone (Pn03.steps t) c (Pn03.values false t c s) (t.facts + 1) (t.facts + 2) [t.facts + 1]
theorem zoneL_mem {x : Nat} : x ∈ zoneL t c s ↔ Zn t c s x := by
  unfold zoneL
  rw [zone_grow]
  have G : Grows (t.facts + 2) (newZ t c s) := ⟨fun z _ x hx => by
      obtain ⟨k, hk, e, _⟩ := newZ_mem.mp hx
      have := dearK_le hk e
      omega, fun z x hx => by
      obtain ⟨k, hk, e, _, _, h⟩ := newZ_mem.mp hx
      exact h⟩
  have E := grow_ends G (t.facts + 2) [t.facts + 1] (List.nodup_cons.mpr ⟨List.not_mem_nil, List.nodup_nil⟩) (fun x hx => by rw [List.mem_singleton.mp hx]; omega) (by omega)
  constructor
  · refine grow_sub (P := Zn t c s) (fun z hz x hx => ?_) _ _ (fun x hx => ?_) x
    · obtain ⟨k, hk, e, h0, ⟨g, hg, hgz⟩, _⟩ := newZ_mem.mp hx
      exact .dear hk e h0 hg (hz g hgz)
    · rw [List.mem_singleton.mp hx]
      exact .end_
  · intro h
    induction h with
    | end_ => exact grow_sup _ _ _ (List.mem_singleton.mpr rfl)
    | @dear k f g hk e h0 hg _ ih =>
      apply Classical.byContradiction
      intro hn
      have : f ∈ newZ t c s (grow (newZ t c s) (t.facts + 2) [t.facts + 1]) := newZ_mem.mpr ⟨k, hk, e, h0, ⟨g, hg, ih⟩, hn⟩
      rw [E] at this
      cases this
def beforeL (t : Task) (c : List Nat) (s : Nat) : List Nat := Pn03.before (Pn03.steps t) (Pn03.values false t c s) (zoneL t c s) (t.facts + 2) (t.facts :: Pn03.facts t.facts s)
theorem so_mem {x : Nat} : x ∈ t.facts :: Pn03.facts t.facts s ↔ soB t s x = true := by
  rw [List.mem_cons, facts_mem]
  unfold soB
  simp
theorem beforeL_mem {x : Nat} : x ∈ beforeL t c s ↔ Bf t c s x := by
  unfold beforeL
  rw [before_grow]
  have G : Grows (t.facts + 2) (newB t c s (zoneL t c s)) := ⟨fun z _ x hx => by
      obtain ⟨k, f, hk, e, _, ha, _⟩ := newB_mem.mp hx
      have := (stp_ok hk).ad x ha
      omega, fun z x hx => by
      obtain ⟨k, f, hk, e, _, _, _, h⟩ := newB_mem.mp hx
      exact h⟩
  have nd : (t.facts :: Pn03.facts t.facts s).Nodup := by
    refine List.nodup_cons.mpr ⟨fun h => ?_, ?_⟩
    · have := (facts_mem.mp h).1
      omega
    · unfold Pn03.facts
      exact List.nodup_range.filter _
  have E := grow_ends G (t.facts + 2) (t.facts :: Pn03.facts t.facts s) nd (fun x hx => by
    rcases List.mem_cons.mp hx with q | hx
    · omega
    · have := (facts_mem.mp hx).1
      omega) (by omega)
  constructor
  · refine grow_sub (P := Bf t c s) (fun z hz x hx => ?_) _ _ (fun x hx => .so (so_mem.mp hx)) x
    obtain ⟨k, f, hk, e, hf, ha, hn, _⟩ := newB_mem.mp hx
    exact .brings hk e (hz f hf) ha fun q => hn (zoneL_mem.mpr q)
  · intro h
    induction h with
    | so h => exact grow_sup _ _ _ (so_mem.mpr h)
    | @brings k f g hk e _ ha hz ih =>
      apply Classical.byContradiction
      intro hn
      have : g ∈ newB t c s (zoneL t c s) (grow (newB t c s (zoneL t c s)) (t.facts + 2) (t.facts :: Pn03.facts t.facts s)) := newB_mem.mpr ⟨k, f, hk, e, ih, ha, fun q => hz (zoneL_mem.mp q), hn⟩
      rw [E] at this
      cases this
def cutL (t : Task) (c : List Nat) (s : Nat) : List Nat := Pn03.cut t s c (Pn03.values false t c s)
theorem cutL_eq : cutL t c s = (List.range (Pn03.steps t).length).filter fun k => match dearK t c s k with
    | some f => (beforeL t c s).contains f && (stp t k).add.any (zoneL t c s).contains
    | none => false := by
  unfold cutL Pn03.cut
  refine List.filter_congr fun k _ => ?_
  show (match Pn03.dear (Pn03.values false t c s) ((Pn03.steps t).getD k ⟨[], []⟩) with
    | some f => (beforeL t c s).contains f && (stp t k).add.any (zoneL t c s).contains
    | none => false) = _
  rw [dear_eq]
theorem cutL_mem {k : Nat} : k ∈ cutL t c s ↔ InCut t c s k := by
  rw [cutL_eq, List.mem_filter, List.mem_range]
  unfold InCut
  constructor
  · rintro ⟨hk, h⟩
    refine ⟨hk, ?_⟩
    cases e : dearK t c s k with
    | none => rw [e] at h; cases h
    | some f =>
      rw [e] at h
      obtain ⟨h1, h2⟩ := Bool.and_eq_true_iff.mp h
      obtain ⟨g, hg, hz⟩ := List.any_eq_true.mp h2
      exact ⟨f, rfl, beforeL_mem.mp (List.contains_iff_mem.mp h1), g, hg, zoneL_mem.mp (List.contains_iff_mem.mp hz)⟩
  · rintro ⟨hk, f, e, hb, g, hg, hz⟩
    refine ⟨hk, ?_⟩
    rw [e]
    show ((beforeL t c s).contains f && (stp t k).add.any (zoneL t c s).contains) = true
    exact Bool.and_eq_true_iff.mpr ⟨List.contains_iff_mem.mpr (beforeL_mem.mpr hb), List.any_eq_true.mpr ⟨g, hg, List.contains_iff_mem.mpr (zoneL_mem.mpr hz)⟩⟩
theorem cutL_sorted : (cutL t c s).Pairwise (· < ·) := by
  rw [cutL_eq]
  exact List.pairwise_lt_range.filter _
/-! what the numbers say -/
theorem wst_so {f : Nat} (h : soB t s f = true) : wst t c s f = some 0 := by
  rw [← wst_fix]
  refine stepW_so ?_ h
  unfold soB at h
  simp at h
  omega
theorem wst_le {k g : Nat} {m : Nat} (hk : k < (Pn03.steps t).length) (hg : g ∈ (stp t k).add) (hj : joinF (wst t c s) (stp t k).pre = some m) : Ole (wst t c s g) (some (m + c.getD k 0)) := by
  have hg2 : g < t.facts + 2 := by
    have := (stp_ok hk).ad g hg
    omega
  by_cases h : soB t s g = true
  · rw [wst_so h]; exact Ole.zero _
  · rw [← wst_fix, stepW_not hg2 (by simpa using h)]
    have : wayW t c (wst t c s) g k = some (m + c.getD k 0) := by
      unfold wayW
      rw [if_pos (List.contains_iff_mem.mpr hg), hj]
      rfl
    rw [← this]
    exact minO_le (List.mem_map.mpr ⟨k, List.mem_range.mpr hk, rfl⟩)
/-- facts of the zone are worth no less than the end -/
theorem zone_worth {f : Nat} (h : Zn t c s f) : Ole (wst t c s (t.facts + 1)) (wst t c s f) := by
  induction h with
  | end_ => exact Ole.refl _
  | @dear k f g hk e h0 hg _ ih =>
    obtain ⟨_, m, hm, hf⟩ := dearF_inv e
    have := wst_le hk hg hm
    rw [h0, Nat.add_zero, ← hf] at this
    exact ih.trans this
theorem before_not_zone {x : Nat} (hx : wst t c s (t.facts + 1) = some (x + 1)) {f : Nat} (h : Bf t c s f) : ¬ Zn t c s f := by
  intro z
  cases h with
  | so h =>
    have := zone_worth z
    rw [hx, wst_so h, Ole.some] at this
    omega
  | brings _ _ _ _ hn => exact hn z
/-- an act of the cut has a price -/
theorem cut_price {x : Nat} (hx : wst t c s (t.facts + 1) = some (x + 1)) {k : Nat} (h : InCut t c s k) : 0 < c.getD k 0 := by
  obtain ⟨hk, f, e, hb, g, hg, hz⟩ := h
  apply Classical.byContradiction
  intro hn
  exact before_not_zone hx hb (.dear hk e (by omega) hg hz)
/-- the round in which a fact has its worth: its dear way comes from an earlier one -/
theorem worth_way {f m : Nat} (hn : soB t s f = false) (h : wst t c s f = some m) {j : Nat} (hj : wr t c s (j + 1) f = some m) :
    ∃ k g, k < (Pn03.steps t).length ∧ f ∈ (stp t k).add ∧ dearK t c s k = some g ∧ ∃ m', wst t c s g = some m' ∧ wr t c s j g = some m' := by
  have hf : f < t.facts + 2 := by
    apply Classical.byContradiction
    intro q
    rw [wst_out t c s f (by omega)] at h
    cases h
  rw [show wr t c s (j + 1) f = _ from stepW_not hf hn] at hj
  rcases minO_mem ((List.range (Pn03.steps t).length).map (wayW t c (wr t c s j) f)) with e | e
  · have hj : minO ((List.range (Pn03.steps t).length).map (wayW t c (wr t c s j) f)) = some m := hj
    rw [e] at hj; cases hj
  · obtain ⟨k, hk, e⟩ := List.mem_map.mp e
    have hk := List.mem_range.mp hk
    have e : wayW t c (wr t c s j) f k = some m := e.trans hj
    unfold wayW at e
    by_cases a : (stp t k).add.contains f = true
    · rw [if_pos a] at e
      cases q : joinF (wr t c s j) (stp t k).pre with
      | none => rw [q] at e; cases e
      | some p =>
        rw [q] at e
        have e : p + c.getD k 0 = m := Option.some.inj e
        have down : ∀ g, Ole (wst t c s g) (wr t c s j g) := fun g => by
          show Ole (rnd (stepW t c s) (t.facts + 2) g) (rnd (stepW t c s) j g)
          by_cases l : j ≤ t.facts + 2
          · exact rnd_le (falls_worths t c s) l g
          · rw [rnd_late (falls_worths t c s) (show t.facts + 2 ≤ j by omega)]
            exact Ole.refl _
        obtain ⟨p', hp', le⟩ := joinF_mono (l := (stp t k).pre) (fun g _ => down g) p q
        have le2 := wst_le hk (List.contains_iff_mem.mp a) hp'
        rw [h, Ole.some] at le2
        have ep : p' = p := by omega
        subst ep
        obtain ⟨g, hg⟩ := dearF_ex (stp_ok hk).ne hp'
        obtain ⟨g1, m1, g2, g3⟩ := dearF_inv hg
        rw [hp'] at g2
        cases g2
        refine ⟨k, g, hk, List.contains_iff_mem.mp a, hg, p', g3, ?_⟩
        obtain ⟨y, hy, ly⟩ := (joinF_inv q).1 g g1
        have := down g
        rw [g3, hy, Ole.some] at this
        rw [hy]
        congr 1
        omega
    · rw [if_neg a] at e; cases e
/-- if no act leads into the zone, all that can be had is before it -/
theorem all_before (no : ∀ k, ¬ InCut t c s k) : ∀ j f m, wst t c s f = some m → wr t c s j f = some m → Bf t c s f
  | 0, f, m, _, h => by cases h
  | j + 1, f, m, h, hj => by
    by_cases q : soB t s f = true
    · exact .so q
    · obtain ⟨k, g, hk, hf, hg, m', h1, h2⟩ := worth_way (by simpa using q) h hj
      have hb := all_before no j g m' h1 h2
      by_cases z : Zn t c s f
      · exact absurd ⟨hk, g, hg, hb, f, hf, z⟩ (no k)
      · exact .brings hk hg hb hf z
theorem cut_ex {x : Nat} (hx : wst t c s (t.facts + 1) = some (x + 1)) : ∃ k, InCut t c s k := by
  apply Classical.byContradiction
  intro hn
  have b := all_before (fun k hk => hn ⟨k, hk⟩) (t.facts + 2) (t.facts + 1) (x + 1) hx hx
  exact before_not_zone hx b .end_
/-- what can be had does not hang on the prices -/
theorem minO_some_iff {l : List (Option Nat)} : (minO l).isSome = true ↔ ∃ x ∈ l, x.isSome = true := by
  constructor
  · intro h
    rcases minO_mem l with e | e
    · rw [e] at h; cases h
    · exact ⟨_, e, h⟩
  · rintro ⟨x, hx, h⟩
    cases x with
    | none => cases h
    | some y =>
      obtain ⟨z, e, _⟩ := minO_le hx y rfl
      rw [e]
      rfl
theorem joinF_isSome {d d' : Fn} {l : List Nat} (h : ∀ f, (d f).isSome = (d' f).isSome) (g : (joinF d l).isSome = true) : (joinF d' l).isSome = true := by
  obtain ⟨m, hm⟩ := Option.isSome_iff_exists.mp g
  obtain ⟨m', hm', _⟩ := joinF_some (d := d') (l := l) fun f hf => by
    obtain ⟨y, hy, _⟩ := (joinF_inv hm).1 f hf
    have := h f
    rw [hy] at this
    exact Option.isSome_iff_exists.mp this.symm
  rw [hm']
  rfl
theorem had_same (c c' : List Nat) : ∀ k f, (wr t c s k f).isSome = true → (wr t c' s k f).isSome = true
  | 0, _, h => by cases h
  | k + 1, f, h => by
    by_cases hf : f < t.facts + 2
    · by_cases q : soB t s f = true
      · rw [show wr t c' s (k + 1) f = some 0 from stepW_so hf q]
        rfl
      · have q : soB t s f = false := by simpa using q
        rw [show wr t c s (k + 1) f = _ from stepW_not hf q] at h
        rw [show wr t c' s (k + 1) f = _ from stepW_not hf q]
        obtain ⟨x, hx, hs⟩ := minO_some_iff.mp h
        obtain ⟨j, hj, e⟩ := List.mem_map.mp hx
        refine minO_some_iff.mpr ⟨_, List.mem_map.mpr ⟨j, hj, rfl⟩, ?_⟩
        subst e
        unfold wayW at hs ⊢
        by_cases a : (stp t j).add.contains f = true
        · rw [if_pos a] at hs ⊢
          rw [Option.isSome_map] at hs ⊢
          exact joinF_isSome (fun g => by
            rw [Bool.eq_iff_iff]
            exact ⟨had_same c c' k g, had_same c' c k g⟩) hs
        · rw [if_neg a] at hs; cases hs
    · rw [wr_out t c s _ f (by omega)] at h; cases h
theorem had_end {c c' : List Nat} (h : (wst t c s (t.facts + 1)).isSome = true) : (wst t c' s (t.facts + 1)).isSome = true := had_same c c' _ _ h
end
end PC

set_option Elab.async false
namespace PC
open Pn (Act Task)
open Pn03 (Step Values)
/-! ### 12. Cuts, one after another -/
section
variable {t : Task} {s : Nat}
def lower (c : List Nat) (k : List Nat) (m : Nat) : List Nat := (List.range c.length).map fun i => if k.contains i = true then c.getD i 0 - m else c.getD i 0
def leastP (c : List Nat) (k : List Nat) : Nat := (k.map fun i => c.getD i 0).foldl min (c.getD (k.headD 0) 0)
theorem foldl_min : ∀ (l : List Nat) (b : Nat), l.foldl min b ≤ b ∧ (∀ x ∈ l, l.foldl min b ≤ x) ∧ (l.foldl min b = b ∨ l.foldl min b ∈ l)
  | [], b => ⟨Nat.le_refl _, (fun _ h => by cases h), .inl rfl⟩
  | a :: l, b => by
    rw [List.foldl_cons]
    obtain ⟨h1, h2, h3⟩ := foldl_min l (min b a)
    refine ⟨by omega, fun x hx => ?_, ?_⟩
    · rcases List.mem_cons.mp hx with e | hx
      · subst e; omega
      · exact h2 x hx
    · rcases h3 with e | h
      · rw [e]
        by_cases c : b ≤ a
        · exact .inl (by omega)
        · refine .inr ?_
          rw [show min b a = a by omega]
          exact List.mem_cons_self ..
      · exact .inr (List.mem_cons_of_mem _ h)
theorem leastP_eq {c k : List Nat} {m : Nat} (h1 : m ∈ k.map fun i => c.getD i 0) (h2 : ∀ x ∈ k.map (fun i => c.getD i 0), m ≤ x) : leastP c k = m := by
  unfold leastP
  obtain ⟨g1, g2, g3⟩ := foldl_min (k.map fun i => c.getD i 0) (c.getD (k.headD 0) 0)
  have a := g2 m h1
  rcases g3 with e | e
  · cases k with
    | nil => cases h1
    | cons x r =>
      have := h2 (c.getD x 0) (List.mem_cons_self ..)
      have e : ((x :: r).map fun i => c.getD i 0).foldl min (c.getD ((x :: r).headD 0) 0) = c.getD x 0 := e
      omega
  · have := h2 _ e
    omega
def pos (c : List Nat) : Nat := ((List.range c.length).filter fun i => decide (0 < c.getD i 0)).length
theorem pos_le (c : List Nat) : pos c ≤ c.length := by
  unfold pos
  have := List.length_filter_le (fun i => decide (0 < c.getD i 0)) (List.range c.length)
  rw [List.length_range] at this
  exact this
theorem lower_len (c k : List Nat) (m : Nat) : (lower c k m).length = c.length := by
  unfold lower
  rw [List.length_map, List.length_range]
theorem lower_get {c k : List Nat} {m i : Nat} : (lower c k m).getD i 0 = if k.contains i = true then c.getD i 0 - m else c.getD i 0 := by
  by_cases h : i < c.length
  · unfold lower
    rw [List.getD_eq_getElem?_getD, List.getElem?_map, List.getElem?_range h]
    rfl
  · have e1 : (lower c k m).getD i 0 = 0 := by
      rw [List.getD_eq_getElem?_getD, List.getElem?_eq_none (by rw [lower_len]; omega)]
      rfl
    have e2 : c.getD i 0 = 0 := by
      rw [List.getD_eq_getElem?_getD, List.getElem?_eq_none (by omega)]
      rfl
    rw [e1, e2]
    by_cases q : k.contains i = true
    · rw [if_pos q]
      omega
    · rw [if_neg q]
theorem pos_lower {c k : List Nat} {m i : Nat} (hi : i ∈ k) (hl : i < c.length) (hm : c.getD i 0 = m) (h0 : 0 < m) : pos (lower c k m) < pos c := by
  unfold pos
  rw [lower_len]
  refine filter_lt (fun x _ h => ?_) ⟨i, List.mem_range.mpr hl, decide_eq_true (by omega), decide_eq_false ?_⟩
  · have h := of_decide_eq_true h
    rw [lower_get] at h
    refine decide_eq_true ?_
    by_cases q : k.contains x = true
    · rw [if_pos q] at h
      omega
    · rw [if_neg q] at h
      exact h
  · rw [lower_get, if_pos (List.contains_iff_mem.mpr hi)]
    omega
theorem cuts_none {n : Nat} {c : List Nat} (h : wst t c s (t.facts + 1) = none) : Pn03.cuts t s (n + 1) c = none := by
  show (match Pn03.val (Pn03.values false t c s) (t.facts + 1) with
    | none => none
    | some 0 => some []
    | some _ => _) = _
  rw [val_values, h]
theorem cuts_zero {n : Nat} {c : List Nat} (h : wst t c s (t.facts + 1) = some 0) : Pn03.cuts t s (n + 1) c = some [] := by
  show (match Pn03.val (Pn03.values false t c s) (t.facts + 1) with
    | none => none
    | some 0 => some []
    | some _ => _) = _
  rw [val_values, h]
  rfl
theorem cuts_more {n x : Nat} {c : List Nat} (h : wst t c s (t.facts + 1) = some (x + 1)) : Pn03.cuts t s (n + 1) c = if leastP c (cutL t c s) = 0 then some [] else (Pn03.cuts t s n (lower c (cutL t c s) (leastP c (cutL t c s)))).map fun r => (leastP c (cutL t c s), cutL t c s) :: r := by
  show (match Pn03.val (Pn03.values false t c s) (t.facts + 1) with
    | none => none
    | some 0 => some []
    | some _ => (if leastP c (cutL t c s) = 0 then some [] else (Pn03.cuts t s n (lower c (cutL t c s) (leastP c (cutL t c s)))).map fun r => (leastP c (cutL t c s), cutL t c s) :: r)) = _
  rw [val_values, h]
  rfl
/-- a row of prices as they come: one for each act, 0 for what's wanted -/
structure PrOk (t : Task) (c : List Nat) : Prop where
  len : c.length = t.acts.length + 1
  last : c.getD t.acts.length 0 = 0
/-- one cut -/
structure CutOk (t : Task) (c : List Nat) (s m : Nat) : Prop where
  mem : ∃ i ∈ cutL t c s, c.getD i 0 = m
  le : ∀ i ∈ cutL t c s, m ≤ c.getD i 0
theorem cut_lt {c : List Nat} {x : Nat} (P : PrOk t c) (hx : wst t c s (t.facts + 1) = some (x + 1)) {i : Nat} (hi : i ∈ cutL t c s) : i < t.acts.length ∧ 0 < c.getD i 0 := by
  have h := cutL_mem.mp hi
  have p := cut_price hx h
  have l := h.1
  rw [steps_len] at l
  refine ⟨?_, p⟩
  apply Classical.byContradiction
  intro q
  have e : i = t.acts.length := by omega
  rw [e, P.last] at p
  omega
theorem CutOk.least {c : List Nat} {m : Nat} (h : CutOk t c s m) : leastP c (cutL t c s) = m := leastP_eq (by
  obtain ⟨i, hi, e⟩ := h.mem
  exact List.mem_map.mpr ⟨i, hi, e⟩) (fun x hx => by
  obtain ⟨i, hi, e⟩ := List.mem_map.mp hx
  rw [← e]
  exact h.le i hi)
theorem CutOk.pos {c : List Nat} {m x : Nat} (h : CutOk t c s m) (P : PrOk t c) (hx : wst t c s (t.facts + 1) = some (x + 1)) : 0 < m := by
  obtain ⟨i, hi, e⟩ := h.mem
  have := (cut_lt P hx hi).2
  omega
theorem CutOk.next {c : List Nat} {m x : Nat} (h : CutOk t c s m) (P : PrOk t c) (hx : wst t c s (t.facts + 1) = some (x + 1)) : PrOk t (lower c (cutL t c s) m) ∧ PC.pos (lower c (cutL t c s) m) < PC.pos c := by
  refine ⟨⟨by rw [lower_len]; exact P.len, ?_⟩, ?_⟩
  · rw [lower_get, P.last]
    by_cases q : (cutL t c s).contains t.acts.length = true
    · rw [if_pos q]
      omega
    · rw [if_neg q]
  · obtain ⟨i, hi, e⟩ := h.mem
    have := cut_lt P hx hi
    exact pos_lower hi (by rw [P.len]; omega) e (h.pos P hx)
theorem cut_ok_ex {c : List Nat} {x : Nat} (hx : wst t c s (t.facts + 1) = some (x + 1)) : ∃ m, CutOk t c s m := by
  obtain ⟨k, hk⟩ := cut_ex hx
  have hk := cutL_mem.mpr hk
  obtain ⟨g1, g2, g3⟩ := foldl_min ((cutL t c s).map fun i => c.getD i 0) (c.getD k 0)
  refine ⟨((cutL t c s).map fun i => c.getD i 0).foldl min (c.getD k 0), ?_, fun i hi => g2 _ (List.mem_map.mpr ⟨i, hi, rfl⟩)⟩
  rcases g3 with e | e
  · exact ⟨k, hk, e.symm⟩
  · obtain ⟨i, hi, q⟩ := List.mem_map.mp e
    exact ⟨i, hi, q⟩
theorem cuts_step {n m x : Nat} {c : List Nat} (P : PrOk t c) (hx : wst t c s (t.facts + 1) = some (x + 1)) (h : CutOk t c s m) : Pn03.cuts t s (n + 1) c = (Pn03.cuts t s n (lower c (cutL t c s) m)).map fun r => (m, cutL t c s) :: r := by
  rw [cuts_more hx, h.least, if_neg (by have := h.pos P hx; omega)]
theorem cuts_any : ∀ n k (c : List Nat), PrOk t c → pos c < n → pos c < k → Pn03.cuts t s n c = Pn03.cuts t s k c
  | 0, _, _, _, h, _ => by omega
  | n + 1, 0, _, _, _, h => by omega
  | n + 1, k + 1, c, P, h1, h2 => by
    cases e : wst t c s (t.facts + 1) with
    | none => rw [cuts_none e, cuts_none e]
    | some x =>
      cases x with
      | zero => rw [cuts_zero e, cuts_zero e]
      | succ x =>
        obtain ⟨m, hm⟩ := cut_ok_ex e
        obtain ⟨P2, l⟩ := hm.next P e
        rw [cuts_step P e hm, cuts_step P e hm, cuts_any n k _ P2 (by omega) (by omega)]
/-- the cuts from these prices on -/
def cutsF (t : Task) (s : Nat) (c : List Nat) : Option (List (Nat × List Nat)) := Pn03.cuts t s (pos c + 1) c
theorem cutsF_none {c : List Nat} (h : wst t c s (t.facts + 1) = none) : cutsF t s c = none := cuts_none h
theorem cutsF_zero {c : List Nat} (h : wst t c s (t.facts + 1) = some 0) : cutsF t s c = some [] := cuts_zero h
theorem cutsF_step {m x : Nat} {c : List Nat} (P : PrOk t c) (hx : wst t c s (t.facts + 1) = some (x + 1)) (h : CutOk t c s m) : cutsF t s c = (cutsF t s (lower c (cutL t c s) m)).map fun r => (m, cutL t c s) :: r := by
  obtain ⟨P2, l⟩ := h.next P hx
  unfold cutsF
  rw [cuts_step P hx h, cuts_any _ (pos (lower c (cutL t c s) m) + 1) _ P2 l (by omega)]
theorem prices_ok (t : Task) : PrOk t (Pn03.prices t) := by
  unfold Pn03.prices
  refine ⟨by simp, ?_⟩
  rw [List.getD_eq_getElem?_getD, List.getElem?_append_right (by rw [List.length_map]; exact Nat.le_refl _), List.length_map, Nat.sub_self]
  rfl
theorem cutsOf_eq (t : Task) (s : Nat) : Pn03.cutsOf t s = cutsF t s (Pn03.prices t) := by
  unfold Pn03.cutsOf cutsF
  have := pos_le (Pn03.prices t)
  rw [(prices_ok t).len] at this
  exact cuts_any _ _ _ (prices_ok t) (by omega) (by omega)
end
/-! ### 13. Sets as bits -/
theorem testBit_andNot : ∀ (k a b : Nat), (a - (a &&& b)).testBit k = (a.testBit k && !b.testBit k)
  | 0, a, b => by
    have h1 : (a &&& b) % 2 = (a % 2) &&& (b % 2) := Nat.and_mod_two_pow (n := 1)
    have h2 : a &&& b ≤ a := Nat.and_le_left
    rw [Nat.testBit_zero, Nat.testBit_zero, Nat.testBit_zero]
    rcases Nat.mod_two_eq_zero_or_one a with ha | ha <;> rcases Nat.mod_two_eq_zero_or_one b with hb | hb <;> rw [ha, hb] at h1 <;> rw [ha, hb]
    · have h1 : (a &&& b) % 2 = 0 := h1
      have : (a - (a &&& b)) % 2 = 0 := by omega
      rw [this]
      rfl
    · have h1 : (a &&& b) % 2 = 0 := h1
      have : (a - (a &&& b)) % 2 = 0 := by omega
      rw [this]
      rfl
    · have h1 : (a &&& b) % 2 = 0 := h1
      have : (a - (a &&& b)) % 2 = 1 := by omega
      rw [this]
      rfl
    · have h1 : (a &&& b) % 2 = 1 := h1
      have : (a - (a &&& b)) % 2 = 0 := by omega
      rw [this]
      rfl
  | k + 1, a, b => by
    have h1 : (a &&& b) % 2 = (a % 2) &&& (b % 2) := Nat.and_mod_two_pow (n := 1)
    have h3 : (a &&& b) / 2 = (a / 2) &&& (b / 2) := Nat.and_div_two_pow (n := 1)
    have h2 : a &&& b ≤ a := Nat.and_le_left
    have h4 : (a &&& b) % 2 ≤ a % 2 := by
      rw [h1]
      exact Nat.and_le_left
    rw [Nat.testBit_succ, Nat.testBit_succ, Nat.testBit_succ, ← testBit_andNot k, ← h3]
    congr 1
    omega
theorem bits_any {m A B : Nat} (ha : m < 2 ^ A) (hb : m < 2 ^ B) : (List.range A).filter m.testBit = (List.range B).filter m.testBit := by
  have aux : ∀ {C f : Nat}, m < 2 ^ C → m.testBit f = true → f < C := fun {C f} hc hf => by
    apply Classical.byContradiction
    intro q
    have := Nat.testBit_lt_two_pow (Nat.lt_of_lt_of_le hc (Nat.pow_le_pow_right (by decide) (show C ≤ f by omega)))
    rw [hf] at this
    cases this
  refine sorted_same (List.pairwise_lt_range.filter _) (List.pairwise_lt_range.filter _) fun x => ?_
  rw [List.mem_filter, List.mem_filter, List.mem_range, List.mem_range]
  exact ⟨fun h => ⟨aux hb h.2, h.2⟩, fun h => ⟨aux ha h.2, h.2⟩⟩
theorem facts_bits (n m : Nat) : Pn03.facts n m = (List.range n).filter m.testBit := by
  unfold Pn03.facts
  refine List.filter_congr fun x _ => bit_eq m x
theorem facts_nil {n m : Nat} (h : m < 2 ^ n) : Pn03.facts n m = [] ↔ m = 0 := by
  rw [facts_bits]
  constructor
  · intro e
    refine Nat.eq_of_testBit_eq fun i => ?_
    rw [Nat.zero_testBit]
    by_cases hi : i < n
    · have := List.filter_eq_nil_iff.mp e i (List.mem_range.mpr hi)
      simpa using this
    · exact Nat.testBit_lt_two_pow (Nat.lt_of_lt_of_le h (Nat.pow_le_pow_right (by decide) (by omega)))
  · intro e
    subst e
    rw [List.filter_eq_nil_iff]
    intro x _
    simp
/-- what an act needs, as bits, the fact that's always so for none -/
def orAlways (n m : Nat) : Nat := if m = 0 then 2 ^ n else m
theorem orAlways_lt {n m : Nat} (h : m < 2 ^ n) : orAlways n m < 2 ^ (n + 1) := by
  unfold orAlways
  have : 2 ^ (n + 1) = 2 ^ n * 2 := Nat.pow_succ ..
  have := Nat.two_pow_pos n
  by_cases e : m = 0
  · rw [if_pos e]; omega
  · rw [if_neg e]; omega
theorem bits_orAlways {n m B : Nat} (h : m < 2 ^ n) (hb : orAlways n m < 2 ^ B) : (List.range B).filter (orAlways n m).testBit = if Pn03.facts n m = [] then [n] else Pn03.facts n m := by
  rw [bits_any hb (orAlways_lt h)]
  unfold orAlways
  by_cases e : m = 0
  · rw [if_pos e, if_pos ((facts_nil h).mpr e)]
    refine sorted_same (List.pairwise_lt_range.filter _) (List.pairwise_singleton _ _) fun x => ?_
    rw [List.mem_filter, List.mem_range, List.mem_singleton, Nat.testBit_two_pow, decide_eq_true_eq]
    omega
  · rw [if_neg e, if_neg (fun q => e ((facts_nil h).mp q)), facts_bits]
    exact bits_any (Nat.lt_of_lt_of_le h (Nat.pow_le_pow_right (by decide) (by omega))) h
def needM (t : Task) (k : Nat) : Nat := if k < t.acts.length then orAlways t.facts (t.act k).pre else orAlways t.facts t.goal
def bringM (t : Task) (k : Nat) : Nat := if k < t.acts.length then (t.act k).add else 2 ^ (t.facts + 1)
theorem needM_lt {t : Task} (w : WF t) {k : Nat} : needM t k < 2 ^ (t.facts + 1) := by
  unfold needM
  by_cases h : k < t.acts.length
  · rw [if_pos h]; exact orAlways_lt (w.at (act_mem h)).pre
  · rw [if_neg h]; exact orAlways_lt w.gl
theorem bringM_lt {t : Task} (w : WF t) {k : Nat} : bringM t k < 2 ^ (t.facts + 2) := by
  unfold bringM
  have e1 : 2 ^ (t.facts + 1) = 2 ^ t.facts * 2 := Nat.pow_succ ..
  have e2 : 2 ^ (t.facts + 2) = 2 ^ (t.facts + 1) * 2 := Nat.pow_succ ..
  have := Nat.two_pow_pos t.facts
  by_cases h : k < t.acts.length
  · rw [if_pos h]
    have := (w.at (act_mem h)).add
    omega
  · rw [if_neg h]; omega
theorem pre_bits {t : Task} (w : WF t) {k B : Nat} (hk : k < (Pn03.steps t).length) (hb : needM t k < 2 ^ B) : (List.range B).filter (needM t k).testBit = (stp t k).pre := by
  rw [steps_len] at hk
  unfold needM at hb ⊢
  by_cases h : k < t.acts.length
  · rw [if_pos h] at hb ⊢
    rw [stp_act h]
    exact bits_orAlways (w.at (act_mem h)).pre hb
  · rw [if_neg h] at hb ⊢
    have e : k = t.acts.length := by omega
    subst e
    rw [stp_goal]
    exact bits_orAlways w.gl hb
theorem add_bits {t : Task} (w : WF t) {k g : Nat} (hk : k < (Pn03.steps t).length) : g ∈ (stp t k).add ↔ (bringM t k).testBit g = true := by
  rw [steps_len] at hk
  unfold bringM
  by_cases h : k < t.acts.length
  · rw [if_pos h, stp_act h]
    show g ∈ Pn03.facts t.facts (t.act k).add ↔ _
    rw [facts_mem]
    refine ⟨fun q => q.2, fun q => ⟨?_, q⟩⟩
    apply Classical.byContradiction
    intro z
    have := Nat.testBit_lt_two_pow (Nat.lt_of_lt_of_le (w.at (act_mem h)).add (Nat.pow_le_pow_right (by decide) (show t.facts ≤ g by omega)))
    rw [q] at this
    cases this
  · rw [if_neg h]
    have e : k = t.acts.length := by omega
    subst e
    rw [stp_goal]
    show g ∈ [t.facts + 1] ↔ _
    rw [List.mem_singleton, Nat.testBit_two_pow, decide_eq_true_eq]
    omega
theorem and_ne_zero {a b : Nat} : a &&& b ≠ 0 ↔ ∃ g, a.testBit g = true ∧ b.testBit g = true := by
  constructor
  · intro h
    apply Classical.byContradiction
    intro q
    refine h (Nat.eq_of_testBit_eq fun i => ?_)
    rw [Nat.testBit_and, Nat.zero_testBit]
    cases e : a.testBit i with
    | false => rfl
    | true =>
      cases f : b.testBit i with
      | false => rfl
      | true => exact absurd ⟨i, e, f⟩ q
  · rintro ⟨g, h1, h2⟩ e
    have : (a &&& b).testBit g = true := by rw [Nat.testBit_and, h1, h2]; rfl
    rw [e, Nat.zero_testBit] at this
    cases this
end PC

set_option Elab.async false
namespace PC
open Pn (Act Task)
open Pn03 (Step Values)
/-! ### 14. The program's own way to the zone and before it: bits, pass by pass -/
section
variable (t : Task) (c : List Nat) (s : Nat)
def zpass (z : Nat) : Nat → Nat
  | 0 => z
  | i + 1 => match dearK t c s i with
    | none => zpass z i
    | some f => if c.getD i 0 = 0 ∧ bringM t i &&& zpass z i ≠ 0 then zpass z i ||| 2 ^ f else zpass z i
def znext (z : Nat) : Nat := zpass t c s z (Pn03.steps t).length
def bpass (z b : Nat) : Nat → Nat
  | 0 => b
  | i + 1 => match dearK t c s i with
    | none => bpass z b i
    | some f => if (bpass z b i).testBit f = true then bpass z b i ||| (bringM t i - (bringM t i &&& z)) else bpass z b i
def bnext (z b : Nat) : Nat := bpass t c s z b (Pn03.steps t).length
end
section
variable {t : Task} {c : List Nat} {s : Nat}
/-- one step of a pass -/
inductive ZStep (t : Task) (c : List Nat) (s i y : Nat) : Nat → Prop
  | no : (∀ f, dearK t c s i = some f → ¬ (c.getD i 0 = 0 ∧ bringM t i &&& y ≠ 0)) → ZStep t c s i y y
  | yes {f : Nat} : dearK t c s i = some f → c.getD i 0 = 0 → bringM t i &&& y ≠ 0 → ZStep t c s i y (y ||| 2 ^ f)
theorem zpass_step (z i : Nat) : ZStep t c s i (zpass t c s z i) (zpass t c s z (i + 1)) := by
  cases e : dearK t c s i with
  | none =>
    have : zpass t c s z (i + 1) = zpass t c s z i := by
      show (match dearK t c s i with | none => _ | some f => _) = _
      rw [e]
    rw [this]
    exact .no fun f h => by rw [e] at h; cases h
  | some f =>
    have e2 : zpass t c s z (i + 1) = if c.getD i 0 = 0 ∧ bringM t i &&& zpass t c s z i ≠ 0 then zpass t c s z i ||| 2 ^ f else zpass t c s z i := by
      show (match dearK t c s i with | none => _ | some f => _) = _
      rw [e]
    by_cases q : c.getD i 0 = 0 ∧ bringM t i &&& zpass t c s z i ≠ 0
    · rw [e2, if_pos q]
      exact .yes e q.1 q.2
    · rw [e2, if_neg q]
      exact .no fun g h => by
        rw [e] at h
        cases h
        exact q
theorem zpass_eq_none {z i : Nat} (e : dearK t c s i = none) : zpass t c s z (i + 1) = zpass t c s z i := by
  show (match dearK t c s i with | none => _ | some f => _) = _
  rw [e]
theorem zpass_eq_some {z i f : Nat} (e : dearK t c s i = some f) : zpass t c s z (i + 1) = if c.getD i 0 = 0 ∧ bringM t i &&& zpass t c s z i ≠ 0 then zpass t c s z i ||| 2 ^ f else zpass t c s z i := by
  show (match dearK t c s i with | none => _ | some f => _) = _
  rw [e]
theorem bpass_eq_none {z b i : Nat} (e : dearK t c s i = none) : bpass t c s z b (i + 1) = bpass t c s z b i := by
  show (match dearK t c s i with | none => _ | some f => _) = _
  rw [e]
theorem bpass_eq_some {z b i f : Nat} (e : dearK t c s i = some f) : bpass t c s z b (i + 1) = if (bpass t c s z b i).testBit f = true then bpass t c s z b i ||| (bringM t i - (bringM t i &&& z)) else bpass t c s z b i := by
  show (match dearK t c s i with | none => _ | some f => _) = _
  rw [e]
theorem zpass_le (z : Nat) : ∀ i j, i ≤ j → zpass t c s z i ≤ zpass t c s z j := by
  intro i j h
  induction h with
  | refl => exact Nat.le_refl _
  | @step m _ ih =>
    refine Nat.le_trans ih ?_
    have st := zpass_step (t := t) (c := c) (s := s) z m
    generalize zpass t c s z (m + 1) = y at st
    cases st with
    | no _ => exact Nat.le_refl _
    | yes _ _ _ => exact Nat.left_le_or
theorem or_pow_eq {y f : Nat} (h : y ||| 2 ^ f = y) : y.testBit f = true := by
  have : (y ||| 2 ^ f).testBit f = true := by
    rw [Nat.testBit_or, Nat.testBit_two_pow_self, Bool.or_true]
  rw [h] at this
  exact this
/-- a pass that changes nothing is closed -/
theorem zpass_closed {z : Nat} (e : znext t c s z = z) {k f : Nat} (hk : k < (Pn03.steps t).length) (hd : dearK t c s k = some f) (h0 : c.getD k 0 = 0) (hb : bringM t k &&& z ≠ 0) : z.testBit f = true := by
  have h1 : zpass t c s z k = z := by
    have a := zpass_le (t := t) (c := c) (s := s) z 0 k (Nat.zero_le _)
    have b := zpass_le (t := t) (c := c) (s := s) z k _ (Nat.le_of_lt hk)
    have e : zpass t c s z (Pn03.steps t).length = z := e
    rw [e] at b
    have a : z ≤ zpass t c s z k := a
    omega
  have h2 : zpass t c s z (k + 1) = z := by
    have a := zpass_le (t := t) (c := c) (s := s) z 0 (k + 1) (Nat.zero_le _)
    have b := zpass_le (t := t) (c := c) (s := s) z (k + 1) _ hk
    have e : zpass t c s z (Pn03.steps t).length = z := e
    rw [e] at b
    have a : z ≤ zpass t c s z (k + 1) := a
    omega
  rw [zpass_eq_some hd, h1, if_pos ⟨h0, hb⟩] at h2
  exact or_pow_eq h2
theorem zpass_sound (w : WF t) {z : Nat} (h : ∀ f, z.testBit f = true → Zn t c s f) : ∀ i, i ≤ (Pn03.steps t).length → ∀ f, (zpass t c s z i).testBit f = true → Zn t c s f
  | 0, _ => h
  | i + 1, hi => fun f hf => by
    have ih := zpass_sound w h i (by omega)
    have st := zpass_step (t := t) (c := c) (s := s) z i
    generalize zpass t c s z (i + 1) = y at st hf
    cases st with
    | no _ => exact ih f hf
    | @yes g hd h0 hb =>
      rw [Nat.testBit_or, Bool.or_eq_true] at hf
      rcases hf with hf | hf
      · exact ih f hf
      · rw [Nat.testBit_two_pow, decide_eq_true_eq] at hf
        subst hf
        obtain ⟨x, h1, h2⟩ := and_ne_zero.mp hb
        exact .dear hi hd h0 ((add_bits w hi).mpr h1) (ih x h2)
theorem zpass_lt {z : Nat} (h : z < 2 ^ (t.facts + 2)) : ∀ i, i ≤ (Pn03.steps t).length → zpass t c s z i < 2 ^ (t.facts + 2)
  | 0, _ => h
  | i + 1, hi => by
    have ih := zpass_lt h i (by omega)
    have st := zpass_step (t := t) (c := c) (s := s) z i
    generalize zpass t c s z (i + 1) = y at st
    cases st with
    | no _ => exact ih
    | @yes g hd h0 hb =>
      refine Nat.or_lt_two_pow ih (Nat.pow_lt_pow_right (by decide) ?_)
      have := dearK_le hi hd
      omega
/-- the zone by bits -/
structure ZIs (t : Task) (c : List Nat) (s z : Nat) : Prop where
  lt : z < 2 ^ (t.facts + 2)
  en : z.testBit (t.facts + 1) = true
  sd : ∀ f, z.testBit f = true → Zn t c s f
theorem ZIs.start (t : Task) (c : List Nat) (s : Nat) : ZIs t c s (2 ^ (t.facts + 1)) := ⟨Nat.pow_lt_pow_right (by decide) (by omega), Nat.testBit_two_pow_self, fun f h => by
  rw [Nat.testBit_two_pow, decide_eq_true_eq] at h
  subst h
  exact .end_⟩
theorem ZIs.next (w : WF t) {z : Nat} (h : ZIs t c s z) : ZIs t c s (znext t c s z) := by
  refine ⟨zpass_lt h.lt _ (Nat.le_refl _), ?_, zpass_sound w h.sd _ (Nat.le_refl _)⟩
  have aux : ∀ i, (zpass t c s z i).testBit (t.facts + 1) = true := fun i => by
    induction i with
    | zero => exact h.en
    | succ i ih =>
      have st := zpass_step (t := t) (c := c) (s := s) z i
      generalize zpass t c s z (i + 1) = y at st
      cases st with
      | no _ => exact ih
      | yes _ _ _ => rw [Nat.testBit_or, ih, Bool.true_or]
  exact aux _
theorem ZIs.done (w : WF t) {z : Nat} (h : ZIs t c s z) (e : znext t c s z = z) (f : Nat) : z.testBit f = true ↔ Zn t c s f := by
  refine ⟨h.sd f, fun q => ?_⟩
  induction q with
  | end_ => exact h.en
  | @dear k f g hk hd h0 hg _ ih => exact zpass_closed e hk hd h0 (and_ne_zero.mpr ⟨g, (add_bits w hk).mp hg, ih⟩)
theorem znext_le (z : Nat) : z ≤ znext t c s z := zpass_le z 0 _ (Nat.zero_le _)
/-- before the zone by bits -/
theorem bpass_le (z b : Nat) : ∀ i j, i ≤ j → bpass t c s z b i ≤ bpass t c s z b j := by
  intro i j h
  induction h with
  | refl => exact Nat.le_refl _
  | @step m _ ih =>
    refine Nat.le_trans ih ?_
    cases e : dearK t c s m with
    | none => rw [bpass_eq_none e]; exact Nat.le_refl _
    | some f =>
      rw [bpass_eq_some e]
      by_cases q : (bpass t c s z b m).testBit f = true
      · rw [if_pos q]; exact Nat.left_le_or
      · rw [if_neg q]; exact Nat.le_refl _
theorem bnext_le (z b : Nat) : b ≤ bnext t c s z b := bpass_le z b 0 _ (Nat.zero_le _)
theorem bpass_closed (w : WF t) {z b : Nat} (e : bnext t c s z b = b) {k f g : Nat} (hk : k < (Pn03.steps t).length) (hd : dearK t c s k = some f) (hf : b.testBit f = true) (hg : g ∈ (stp t k).add) (hz : z.testBit g = false) : b.testBit g = true := by
  have e : bpass t c s z b (Pn03.steps t).length = b := e
  have h1 : bpass t c s z b k = b := by
    have a := bpass_le (t := t) (c := c) (s := s) z b 0 k (Nat.zero_le _)
    have q := bpass_le (t := t) (c := c) (s := s) z b k _ (Nat.le_of_lt hk)
    rw [e] at q
    have a : b ≤ bpass t c s z b k := a
    omega
  have h2 : bpass t c s z b (k + 1) = b := by
    have a := bpass_le (t := t) (c := c) (s := s) z b 0 (k + 1) (Nat.zero_le _)
    have q := bpass_le (t := t) (c := c) (s := s) z b (k + 1) _ hk
    rw [e] at q
    have a : b ≤ bpass t c s z b (k + 1) := a
    omega
  rw [bpass_eq_some hd, h1, if_pos hf] at h2
  have : (b ||| (bringM t k - (bringM t k &&& z))).testBit g = true := by
    rw [Nat.testBit_or, testBit_andNot, (add_bits w hk).mp hg, hz]
    simp
  rw [h2] at this
  exact this
structure BIs (t : Task) (c : List Nat) (s b : Nat) : Prop where
  lt : b < 2 ^ (t.facts + 2)
  so : ∀ f, soB t s f = true → b.testBit f = true
  sd : ∀ f, b.testBit f = true → Bf t c s f
theorem so_bits {s : Nat} (hs : s < 2 ^ t.facts) (f : Nat) : (s ||| 2 ^ t.facts).testBit f = soB t s f := by
  unfold soB
  rw [Nat.testBit_or, Nat.testBit_two_pow, Bool.or_comm]
  congr 1
  · exact decide_eq_decide.mpr ⟨fun h => h.symm, fun h => h.symm⟩
  · by_cases h : f < t.facts
    · rw [decide_eq_true h, Bool.true_and]
    · rw [decide_eq_false h, Bool.false_and]
      exact Nat.testBit_lt_two_pow (Nat.lt_of_lt_of_le hs (Nat.pow_le_pow_right (by decide) (by omega)))
theorem so_lt {s : Nat} (hs : s < 2 ^ t.facts) : s ||| 2 ^ t.facts < 2 ^ (t.facts + 1) := Nat.or_lt_two_pow (Nat.lt_of_lt_of_le hs (Nat.pow_le_pow_right (by decide) (by omega))) (Nat.pow_lt_pow_right (by decide) (by omega))
theorem BIs.start (c : List Nat) {s : Nat} (hs : s < 2 ^ t.facts) : BIs t c s (s ||| 2 ^ t.facts) := ⟨Nat.lt_trans (so_lt hs) (Nat.pow_lt_pow_right (by decide) (by omega)), fun f h => by rw [so_bits hs]; exact h, fun f h => by
  rw [so_bits hs] at h
  exact .so h⟩
theorem BIs.pass (w : WF t) {z b : Nat} (hz : ∀ f, z.testBit f = true ↔ Zn t c s f) (h : BIs t c s b) : ∀ i, i ≤ (Pn03.steps t).length → BIs t c s (bpass t c s z b i)
  | 0, _ => h
  | i + 1, hi => by
    have ih := BIs.pass w hz h i (by omega)
    cases e : dearK t c s i with
    | none => rw [bpass_eq_none e]; exact ih
    | some f =>
      rw [bpass_eq_some e]
      by_cases q : (bpass t c s z b i).testBit f = true
      · rw [if_pos q]
        refine ⟨Nat.or_lt_two_pow ih.lt (Nat.lt_of_le_of_lt (Nat.sub_le _ _) (bringM_lt w)), fun g hg => by rw [Nat.testBit_or, ih.so g hg, Bool.true_or], fun g hg => ?_⟩
        rw [Nat.testBit_or, Bool.or_eq_true] at hg
        rcases hg with hg | hg
        · exact ih.sd g hg
        · rw [testBit_andNot, Bool.and_eq_true] at hg
          refine .brings hi e (ih.sd f q) ((add_bits w hi).mpr hg.1) fun zg => ?_
          have := (hz g).mpr zg
          rw [this] at hg
          cases hg.2
      · rw [if_neg q]; exact ih
theorem BIs.next (w : WF t) {z b : Nat} (hz : ∀ f, z.testBit f = true ↔ Zn t c s f) (h : BIs t c s b) : BIs t c s (bnext t c s z b) := BIs.pass w hz h _ (Nat.le_refl _)
theorem BIs.done (w : WF t) {z b : Nat} (hz : ∀ f, z.testBit f = true ↔ Zn t c s f) (h : BIs t c s b) (e : bnext t c s z b = b) (f : Nat) : b.testBit f = true ↔ Bf t c s f := by
  refine ⟨h.sd f, fun q => ?_⟩
  induction q with
  | so h1 => exact h.so _ h1
  | @brings k f g hk hd _ hg hn ih =>
    refine bpass_closed w e hk hd ih hg ?_
    cases q : z.testBit g with
    | false => rfl
    | true => exact absurd ((hz g).mp q) hn
/-- the acts of the cut, as the program picks them -/
def picks (t : Task) (c : List Nat) (s z b k : Nat) : Bool := match dearK t c s k with
  | none => false
  | some f => b.testBit f && decide (bringM t k &&& z ≠ 0)
theorem picks_eq (w : WF t) {z b : Nat} (hz : ∀ f, z.testBit f = true ↔ Zn t c s f) (hb : ∀ f, b.testBit f = true ↔ Bf t c s f) : (List.range (Pn03.steps t).length).filter (picks t c s z b) = cutL t c s := by
  refine sorted_same (List.pairwise_lt_range.filter _) cutL_sorted fun k => ?_
  rw [List.mem_filter, List.mem_range, cutL_mem]
  unfold InCut picks
  constructor
  · rintro ⟨hk, h⟩
    refine ⟨hk, ?_⟩
    cases e : dearK t c s k with
    | none => rw [e] at h; cases h
    | some f =>
      rw [e] at h
      obtain ⟨h1, h2⟩ := Bool.and_eq_true_iff.mp h
      obtain ⟨g, h3, h4⟩ := and_ne_zero.mp (of_decide_eq_true h2)
      exact ⟨f, rfl, (hb f).mp h1, g, (add_bits w hk).mpr h3, (hz g).mp h4⟩
  · rintro ⟨hk, f, e, h1, g, h3, h4⟩
    refine ⟨hk, ?_⟩
    rw [e]
    exact Bool.and_eq_true_iff.mpr ⟨(hb f).mpr h1, decide_eq_true (and_ne_zero.mpr ⟨g, (add_bits w hk).mp h3, (hz g).mpr h4⟩)⟩
end
end PC

set_option Elab.async false
namespace PC
open Pn (Act Task)
open Pn02 (Clause)
/-! ### 15. Found first -/
section
variable {α β : Type}
theorem fs_hit {f : α → Option β} {b : β} {a : α} : ∀ {l : List α} {i : Nat}, l[i]? = some a → f a = some b → (∀ (j : Nat) (x : α), j < i → l[j]? = some x → f x = none) → l.findSome? f = some b
  | [], i, h, _, _ => by simp at h
  | c :: l, 0, h, hf, _ => by
    cases (Option.some.inj h)
    rw [List.findSome?_cons, hf]
  | c :: l, i + 1, h, hf, hn => by
    rw [List.findSome?_cons, hn 0 c (Nat.succ_pos _) rfl]
    exact fs_hit (i := i) h hf fun j x hj hx => hn (j + 1) x (by omega) hx
theorem fs_none {f : α → Option β} {l : List α} (h : ∀ (j : Nat) (x : α), l[j]? = some x → f x = none) : l.findSome? f = none := by
  rw [List.findSome?_eq_none_iff]
  intro x hx
  obtain ⟨j, hj⟩ := List.getElem?_of_mem hx
  exact h j x hj
theorem fd_hit {p : α → Bool} {a : α} : ∀ {l : List α} {i : Nat}, l[i]? = some a → p a = true → (∀ (j : Nat) (x : α), j < i → l[j]? = some x → p x = false) → l.find? p = some a
  | [], i, h, _, _ => by simp at h
  | c :: l, 0, h, hf, _ => by
    cases (Option.some.inj h)
    rw [List.find?_cons, hf]
  | c :: l, i + 1, h, hf, hn => by
    rw [List.find?_cons, hn 0 c (Nat.succ_pos _) rfl]
    exact fd_hit (i := i) h hf fun j x hj hx => hn (j + 1) x (by omega) hx
theorem fd_none {p : α → Bool} {l : List α} (h : ∀ (j : Nat) (x : α), l[j]? = some x → p x = false) : l.find? p = none := by
  rw [List.find?_eq_none]
  intro x hx
  obtain ⟨j, hj⟩ := List.getElem?_of_mem hx
  rw [h j x hj]
  decide
theorem range_get {n i x : Nat} (h : (List.range n)[i]? = some x) : x = i ∧ i < n := by
  have hi := (List.getElem?_eq_some_iff.mp h).1
  rw [List.length_range] at hi
  rw [List.getElem?_range hi] at h
  exact ⟨(Option.some.inj h).symm, hi⟩
theorem fsr_hit {f : Nat → Option β} {b : β} {n i : Nat} (hi : i < n) (h : f i = some b) (hn : ∀ j, j < i → f j = none) : (List.range n).findSome? f = some b :=
  fs_hit (List.getElem?_range hi) h fun j x hj hx => by
    obtain ⟨rfl, _⟩ := range_get hx
    exact hn _ hj
theorem fsr_none {f : Nat → Option β} {n : Nat} (h : ∀ j, j < n → f j = none) : (List.range n).findSome? f = none :=
  fs_none fun j x hx => by
    obtain ⟨rfl, hj⟩ := range_get hx
    exact h _ hj
theorem fdr_hit {p : Nat → Bool} {n i : Nat} (hi : i < n) (h : p i = true) (hn : ∀ j, j < i → p j = false) : (List.range n).find? p = some i :=
  fd_hit (List.getElem?_range hi) h fun j x hj hx => by
    obtain ⟨rfl, _⟩ := range_get hx
    exact hn _ hj
theorem fdr_none {p : Nat → Bool} {n : Nat} (h : ∀ j, j < n → p j = false) : (List.range n).find? p = none :=
  fd_none fun j x hx => by
    obtain ⟨rfl, hj⟩ := range_get hx
    exact h _ hj
end
/-- 0 if it's taken, else what's wrong -/
def faultL (o : Pn18.Fault) : List Nat := match o with
  | none => [0]
  | some l => l
theorem can_eq {t : Task} {s k : Nat} (h : k < t.acts.length) : t.can s k = (t.act k).may s := by
  unfold Pn.Task.can
  rw [decide_eq_true h, Bool.true_and]
/-! ### 16. Clauses, what's wrong first -/
def badC (t : Task) (r : List Clause) (i k s : Nat) : Bool := t.can s k && !Pn02.says ((t.act k).then_ s) (r.getD i (0, 0))
def brkK (t : Task) (r : List Clause) (m : List Nat) (i k : Nat) : Option (Nat × Nat × Nat) := (m.find? (badC t r i k)).map fun s => (i, k, s)
def brkI (t : Task) (r : List Clause) (m : List Nat) (i : Nat) : Option (Nat × Nat × Nat) := (List.range t.acts.length).findSome? (brkK t r m i)
def brk (t : Task) (r : List Clause) (m : List Nat) : Option (Nat × Nat × Nat) := (List.range r.length).findSome? (brkI t r m)
theorem brk_eq (t : Task) (l : List Clause) (m : List Nat) : (((List.range l.length).flatMap fun i => (List.range t.acts.length).flatMap fun k => m.map fun s => (i, k, s)).find? fun x => t.can x.2.2 x.2.1 && !Pn02.says ((t.act x.2.1).then_ x.2.2) (l.getD x.1 (0, 0))) = brk t l m := by
  rw [List.find?_flatMap]
  unfold brk
  congr 1
  funext i
  rw [List.find?_flatMap]
  unfold brkI
  congr 1
  funext k
  rw [List.find?_map]
  rfl
def firstBad (t : Task) (l : List Clause) : Option Nat := (List.range l.length).find? fun i => !Pn02.says t.start (l.getD i (0, 0))
theorem checkClauses_eq (t : Task) (l : List Clause) : Pn18.checkClauses t l = match firstBad t l with
    | some i => some [1, i]
    | none => match brk t l (Pn02.models t.facts l) with
      | some x => some [2, x.1, x.2.1, x.2.2]
      | none => ((Pn02.models t.facts l).find? t.done).map fun s => [3, s] := by
  have h : Pn02.fault t l = match firstBad t l with
    | some i => some (.start i)
    | none => match brk t l (Pn02.models t.facts l) with
      | some x => some (.broken x.1 x.2.1 x.2.2)
      | none => match (Pn02.models t.facts l).find? t.done with
        | some s => some (.goal s)
        | none => none := by
    rw [← brk_eq]
    rfl
  unfold Pn18.checkClauses
  rw [h]
  cases firstBad t l with
  | some i => rfl
  | none =>
    cases brk t l (Pn02.models t.facts l) with
    | some x => rfl
    | none =>
      cases (Pn02.models t.facts l).find? t.done with
      | some s => rfl
      | none => rfl
theorem checkClauses_ne (t : Task) (l : List Clause) : Pn18.checkClauses t l ≠ some [] := by
  rw [checkClauses_eq]
  cases firstBad t l with
  | some i => intro h; cases h
  | none =>
    cases brk t l (Pn02.models t.facts l) with
    | some x => intro h; cases h
    | none =>
      cases (Pn02.models t.facts l).find? t.done with
      | some s => intro h; cases h
      | none => intro h; cases h
theorem getD_at {α : Type} {l : List α} {i : Nat} {x d : α} (h : l[i]? = some x) : l.getD i d = x := by
  rw [List.getD_eq_getElem?_getD, h]
  rfl
theorem brk_none {t : Task} {l : List Clause} {m : List Nat} : brk t l m = none ↔ ∀ i, i < l.length → ∀ k, k < t.acts.length → ∀ s ∈ m, badC t l i k s = false := by
  constructor
  · intro h i hi k hk s hs
    have h1 := List.findSome?_eq_none_iff.mp h i (List.mem_range.mpr hi)
    have h2 := List.findSome?_eq_none_iff.mp h1 k (List.mem_range.mpr hk)
    have h3 := List.find?_eq_none.mp (Option.map_eq_none_iff.mp h2) s hs
    simpa using h3
  · intro h
    refine fsr_none fun i hi => fsr_none fun k hk => ?_
    unfold brkK
    rw [fd_none fun j s hs => h i hi k hk s (List.mem_of_getElem? hs)]
    rfl
theorem taken_iff (t : Task) (l : List Clause) : Pn18.checkClauses t l = none ↔ Pn02.proves t l = true := by
  have e1 : firstBad t l = none ↔ l.all (Pn02.says t.start) = true := by
    unfold firstBad
    rw [List.find?_eq_none, List.all_eq_true]
    constructor
    · intro h c hc
      obtain ⟨i, hi⟩ := List.getElem?_of_mem hc
      have := h i (List.mem_range.mpr (List.getElem?_eq_some_iff.mp hi).1)
      rw [getD_at hi] at this
      simpa using this
    · intro h i hi
      have hi := List.mem_range.mp hi
      have hg : l[i]? = some l[i] := List.getElem?_eq_getElem hi
      rw [getD_at hg, h _ (List.getElem_mem hi)]
      decide
  have e2 : brk t l (Pn02.models t.facts l) = none ↔ l.all (Pn02.kept t (Pn02.models t.facts l)) = true := by
    rw [brk_none, List.all_eq_true]
    constructor
    · intro h c hc
      unfold Pn02.kept
      rw [List.all_eq_true]
      intro s hs
      rw [List.all_eq_true]
      intro a ha
      obtain ⟨i, hi⟩ := List.getElem?_of_mem hc
      obtain ⟨k, hk, hka⟩ := List.getElem_of_mem ha
      have := h i (List.getElem?_eq_some_iff.mp hi).1 k hk s hs
      unfold badC at this
      rw [getD_at hi, can_eq hk, act_get hk, hka] at this
      cases q : a.may s with
      | false => rfl
      | true =>
        rw [q] at this
        simpa using this
    · intro h i hi k hk s hs
      have hg : l[i]? = some l[i] := List.getElem?_eq_getElem hi
      have := h _ (List.getElem_mem hi)
      unfold Pn02.kept at this
      rw [List.all_eq_true] at this
      have := this s hs
      rw [List.all_eq_true] at this
      have := this _ (act_mem hk)
      unfold badC
      rw [getD_at hg, can_eq hk]
      cases q : (t.act k).may s with
      | false => rfl
      | true =>
        rw [q] at this
        simpa using this
  have e3 : (Pn02.models t.facts l).find? t.done = none ↔ (!(Pn02.models t.facts l).any t.done) = true := by
    rw [List.find?_eq_none, Bool.not_eq_true', List.any_eq_false]
  have e4 : Pn02.proves t l = (l.all (Pn02.says t.start) && (l.all (Pn02.kept t (Pn02.models t.facts l)) && !(Pn02.models t.facts l).any t.done)) := rfl
  rw [e4, Bool.and_eq_true, Bool.and_eq_true, ← e1, ← e2, ← e3, checkClauses_eq]
  cases firstBad t l with
  | some i => exact ⟨(fun h => by cases h), (fun h => by cases h.1)⟩
  | none =>
    cases brk t l (Pn02.models t.facts l) with
    | some x => exact ⟨(fun h => by cases h), (fun h => by cases h.2.1)⟩
    | none =>
      cases (Pn02.models t.facts l).find? t.done with
      | some s => exact ⟨(fun h => by cases h), (fun h => by cases h.2.2)⟩
      | none => exact ⟨fun _ => ⟨rfl, rfl, rfl⟩, fun _ => rfl⟩
/-- a fault begins with no 0 -/
theorem clauses_zero (t : Task) (l : List Clause) : decide (faultL (Pn18.checkClauses t l) = [0]) = Pn02.proves t l := by
  rw [Bool.eq_iff_iff, decide_eq_true_eq, ← taken_iff, checkClauses_eq]
  cases firstBad t l with
  | some i => exact ⟨(fun h => by cases h), (fun h => by cases h)⟩
  | none =>
    cases brk t l (Pn02.models t.facts l) with
    | some x => exact ⟨(fun h => by cases h), (fun h => by cases h)⟩
    | none =>
      cases (Pn02.models t.facts l).find? t.done with
      | some s => exact ⟨(fun h => by cases h), (fun h => by cases h)⟩
      | none => exact ⟨fun _ => rfl, fun _ => rfl⟩
/-! ### 17. A table -/
def tabA (t : Task) (h : List Nat) (s : Nat) : Bool := t.done s && decide (0 < h.getD s 0)
def tabK (t : Task) (h : List Nat) (s k : Nat) : Bool := t.can s k && decide ((t.act k).cost + h.getD ((t.act k).then_ s) 0 < h.getD s 0)
def tabB (t : Task) (h : List Nat) (s : Nat) : Option (List Nat) := ((List.range t.acts.length).find? (tabK t h s)).map fun k => [3, s, k]
theorem checkTable_eq (t : Task) (c : Nat) (h : List Nat) : Pn18.checkTable t c h = if h.length ≠ 2 ^ t.facts then some [1] else match (List.range (2 ^ t.facts)).find? (tabA t h) with
    | some s => some [2, s]
    | none => match (List.range (2 ^ t.facts)).findSome? (tabB t h) with
      | some x => some x
      | none => if h.getD t.start 0 < c then some [4, h.getD t.start 0] else none := by
  show (if h.length ≠ 2 ^ t.facts then some [1] else Pn18.orElse (((List.range (2 ^ t.facts)).find? (tabA t h)).map fun s => [2, s]) (Pn18.orElse ((List.range (2 ^ t.facts)).findSome? (tabB t h)) (if h.getD t.start 0 < c then some [4, h.getD t.start 0] else none))) = _
  by_cases q : h.length ≠ 2 ^ t.facts
  · rw [if_pos q, if_pos q]
  · rw [if_neg q, if_neg q]
    cases (List.range (2 ^ t.facts)).find? (tabA t h) with
    | some s => rfl
    | none =>
      cases (List.range (2 ^ t.facts)).findSome? (tabB t h) with
      | some x => rfl
      | none => rfl
theorem tabB_some {t : Task} {h : List Nat} {x : List Nat} {l : List Nat} (e : l.findSome? (tabB t h) = some x) : ∃ s k, x = [3, s, k] := by
  obtain ⟨s, _, hs⟩ := List.exists_of_findSome?_eq_some e
  unfold tabB at hs
  obtain ⟨k, _, hk⟩ := Option.map_eq_some_iff.mp hs
  exact ⟨s, k, hk.symm⟩
theorem table_zero (t : Task) (c : Nat) (h : List Nat) : faultL (Pn18.checkTable t c h) = [0] ↔ Pn18.checkTable t c h = none := by
  rw [checkTable_eq]
  by_cases q : h.length ≠ 2 ^ t.facts
  · rw [if_pos q]
    exact ⟨(fun h => by cases h), (fun h => by cases h)⟩
  · rw [if_neg q]
    cases (List.range (2 ^ t.facts)).find? (tabA t h) with
    | some s => exact ⟨(fun h => by cases h), (fun h => by cases h)⟩
    | none =>
      cases e : (List.range (2 ^ t.facts)).findSome? (tabB t h) with
      | some x =>
        obtain ⟨s, k, rfl⟩ := tabB_some e
        exact ⟨(fun h => by cases h), (fun h => by cases h)⟩
      | none =>
        by_cases q2 : h.getD t.start 0 < c
        · show faultL (if _ then _ else _) = _ ↔ (if _ then _ else _) = _
          rw [if_pos q2]
          exact ⟨(fun h => by cases h), (fun h => by cases h)⟩
        · show faultL (if _ then _ else _) = _ ↔ (if _ then _ else _) = _
          rw [if_neg q2]
          exact ⟨fun _ => rfl, fun _ => rfl⟩
theorem table_ne (t : Task) (c : Nat) (h : List Nat) : Pn18.checkTable t c h ≠ some [] := by
  rw [checkTable_eq]
  by_cases q : h.length ≠ 2 ^ t.facts
  · rw [if_pos q]
    intro h; cases h
  · rw [if_neg q]
    cases (List.range (2 ^ t.facts)).find? (tabA t h) with
    | some s => intro h; cases h
    | none =>
      cases e : (List.range (2 ^ t.facts)).findSome? (tabB t h) with
      | some x =>
        obtain ⟨s, k, rfl⟩ := tabB_some e
        intro h; cases h
      | none =>
        show (if _ then _ else _) ≠ _
        by_cases q2 : h.getD t.start 0 < c
        · rw [if_pos q2]; intro h; cases h
        · rw [if_neg q2]; intro h; cases h
/-! ### 18. A set of states -/
def setK (t : Task) (l : List Nat) (s k : Nat) : Bool := t.can s k && !l.contains ((t.act k).then_ s)
def setB (t : Task) (l : List Nat) (s : Nat) : Option (List Nat) := ((List.range t.acts.length).find? (setK t l s)).map fun k => [2, s, k]
theorem checkSet_eq (t : Task) (l : List Nat) : Pn18.checkSet t l = if l.contains t.start = false then some [1] else match l.findSome? (setB t l) with
    | some x => some x
    | none => (l.find? t.done).map fun s => [3, s] := by
  show (if l.contains t.start = false then some [1] else Pn18.orElse (l.findSome? (setB t l)) ((l.find? t.done).map fun s => [3, s])) = _
  by_cases q : l.contains t.start = false
  · rw [if_pos q, if_pos q]
  · rw [if_neg q, if_neg q]
    cases l.findSome? (setB t l) with
    | some x => rfl
    | none => rfl
theorem set_ne (t : Task) (l : List Nat) : Pn18.checkSet t l ≠ some [] := by
  rw [checkSet_eq]
  by_cases q : l.contains t.start = false
  · rw [if_pos q]
    intro h; cases h
  · rw [if_neg q]
    cases e : l.findSome? (setB t l) with
    | some x =>
      obtain ⟨s, _, hs⟩ := List.exists_of_findSome?_eq_some e
      obtain ⟨k, _, hk⟩ := Option.map_eq_some_iff.mp hs
      rw [← hk]
      intro h; cases h
    | none =>
      cases l.find? t.done with
      | some s => intro h; cases h
      | none => intro h; cases h
/-! ### 19. Cuts -/
def gone (t : Task) (x : Nat × List Nat) : Bool := t.done (Pn18.had t x.2 (t.facts + 1) t.start)
def pays (l : List (Nat × List Nat)) (k : Nat) : Nat := ((l.filter fun x => x.2.contains k).map fun x => x.1).sum
def dearer (t : Task) (l : List (Nat × List Nat)) (k : Nat) : Bool := decide ((t.act k).cost < pays l k)
def worthS (l : List (Nat × List Nat)) : Nat := (l.map fun x => x.1).sum
theorem checkCuts_eq (t : Task) (c : Nat) (l : List (Nat × List Nat)) : Pn18.checkCuts t c l = match (List.range l.length).find? fun i => gone t (l.getD i (0, [])) with
    | some i => some [1, i]
    | none => match (List.range t.acts.length).find? (dearer t l) with
      | some k => some [2, k]
      | none => if worthS l < c then some [3, worthS l] else none := by
  have e1 : Pn03.worth l = worthS l := sum_eq _
  have e2 : (fun k => decide ((t.act k).cost < Pn.sum ((l.filter fun x => x.2.contains k).map fun x => x.1))) = dearer t l := by
    funext k
    unfold dearer pays
    rw [sum_eq]
  show Pn18.orElse (((List.range l.length).find? fun i => gone t (l.getD i (0, []))).map fun i => [1, i]) (Pn18.orElse (((List.range t.acts.length).find? fun k => decide ((t.act k).cost < Pn.sum ((l.filter fun x => x.2.contains k).map fun x => x.1))).map fun k => [2, k]) (if Pn03.worth l < c then some [3, Pn03.worth l] else none)) = _
  rw [e1, e2]
  cases (List.range l.length).find? fun i => gone t (l.getD i (0, [])) with
  | some i => rfl
  | none =>
    cases (List.range t.acts.length).find? (dearer t l) with
    | some k => rfl
    | none => rfl
theorem cuts_ne (t : Task) (c : Nat) (l : List (Nat × List Nat)) : Pn18.checkCuts t c l ≠ some [] := by
  rw [checkCuts_eq]
  cases (List.range l.length).find? fun i => gone t (l.getD i (0, [])) with
  | some i => intro h; cases h
  | none =>
    cases (List.range t.acts.length).find? (dearer t l) with
    | some k => intro h; cases h
    | none =>
      show (if _ then _ else _) ≠ _
      by_cases q2 : worthS l < c
      · rw [if_pos q2]; intro h; cases h
      · rw [if_neg q2]; intro h; cases h
/-! ### 20. What can be had without some acts -/
def Sub (a b : Nat) : Prop := ∀ f, a.testBit f = true → b.testBit f = true
theorem within_iff {a b : Nat} : Pn.within a b = true ↔ Sub a b := by
  unfold Pn.within
  rw [beq_iff_eq]
  constructor
  · intro h f hf
    have := congrArg (fun x => x.testBit f) h
    have e : (a.land b).testBit f = (a.testBit f && b.testBit f) := Nat.testBit_and ..
    have this : (a.land b).testBit f = a.testBit f := this
    rw [e, hf, Bool.true_and] at this
    exact this
  · intro h
    refine Nat.eq_of_testBit_eq fun f => ?_
    have e : (a.land b).testBit f = (a.testBit f && b.testBit f) := Nat.testBit_and ..
    rw [e]
    cases q : a.testBit f with
    | false => rfl
    | true => rw [h f q]; rfl
theorem Sub.refl (a : Nat) : Sub a a := fun _ h => h
theorem Sub.trans {a b c : Nat} (h : Sub a b) (g : Sub b c) : Sub a c := fun f q => g f (h f q)
theorem Sub.anti {a b : Nat} (h : Sub a b) (g : Sub b a) : a = b := Nat.eq_of_testBit_eq fun f => by
  rw [Bool.eq_iff_iff]
  exact ⟨h f, g f⟩
theorem sub_or_l (a b : Nat) : Sub a (a ||| b) := fun f h => by rw [Nat.testBit_or, h]; rfl
theorem sub_or_r (a b : Nat) : Sub b (a ||| b) := fun f h => by rw [Nat.testBit_or, h, Bool.or_true]
theorem or_sub {a b c : Nat} (h : Sub a c) (g : Sub b c) : Sub (a ||| b) c := fun f q => by
  rw [Nat.testBit_or, Bool.or_eq_true] at q
  rcases q with q | q
  · exact h f q
  · exact g f q
section
variable (t : Task) (w : List Nat)
/-- closed under the other acts -/
def Clo (z : Nat) : Prop := ∀ k, k < t.acts.length → w.contains k = false → Sub (t.act k).pre z → Sub (t.act k).add z
def hround (m : Nat) : Nat := (List.range t.acts.length).foldl (fun x k => if w.contains k = false ∧ Pn.within (t.act k).pre m = true then x.lor (t.act k).add else x) m
end
section
variable {t : Task} {w : List Nat}
theorem hfold {m : Nat} : ∀ (l : List Nat) (x : Nat), Sub x (l.foldl (fun x k => if w.contains k = false ∧ Pn.within (t.act k).pre m = true then x.lor (t.act k).add else x) x) ∧
    (∀ k ∈ l, w.contains k = false → Sub (t.act k).pre m → Sub (t.act k).add (l.foldl (fun x k => if w.contains k = false ∧ Pn.within (t.act k).pre m = true then x.lor (t.act k).add else x) x)) ∧
    ∀ z, Sub x z → (∀ k ∈ l, w.contains k = false → Sub (t.act k).pre m → Sub (t.act k).add z) → Sub (l.foldl (fun x k => if w.contains k = false ∧ Pn.within (t.act k).pre m = true then x.lor (t.act k).add else x) x) z
  | [], x => ⟨Sub.refl x, (fun _ h => by cases h), fun _ h _ => h⟩
  | a :: l, x => by
    rw [List.foldl_cons]
    obtain ⟨h1, h2, h3⟩ := hfold (m := m) l (if w.contains a = false ∧ Pn.within (t.act a).pre m = true then x.lor (t.act a).add else x)
    have e : ∀ b, x.lor b = x ||| b := fun _ => rfl
    by_cases q : w.contains a = false ∧ Pn.within (t.act a).pre m = true
    · rw [if_pos q, e] at h1 h2 h3 ⊢
      refine ⟨(sub_or_l _ _).trans h1, fun k hk hw hp => ?_, fun z hx hz => h3 z (or_sub hx (hz a (List.mem_cons_self ..) q.1 (within_iff.mp q.2))) fun k hk => hz k (List.mem_cons_of_mem _ hk)⟩
      rcases List.mem_cons.mp hk with rfl | hk
      · exact (sub_or_r _ _).trans h1
      · exact h2 k hk hw hp
    · rw [if_neg q] at h1 h2 h3 ⊢
      refine ⟨h1, fun k hk hw hp => ?_, fun z hx hz => h3 z hx fun k hk => hz k (List.mem_cons_of_mem _ hk)⟩
      rcases List.mem_cons.mp hk with rfl | hk
      · exact absurd ⟨hw, within_iff.mpr hp⟩ q
      · exact h2 k hk hw hp
theorem hround_sub (m : Nat) : Sub m (hround t w m) := (hfold _ m).1
theorem hround_clo {m : Nat} (h : hround t w m = m) : Clo t w m := fun k hk hw hp => by
  have := (hfold (t := t) (w := w) (m := m) (List.range t.acts.length) m).2.1 k (List.mem_range.mpr hk) hw hp
  have e : Sub (t.act k).add (hround t w m) := this
  rw [h] at e
  exact e
theorem hround_le {m z : Nat} (hm : Sub m z) (hz : Clo t w z) : Sub (hround t w m) z := (hfold (List.range t.acts.length) m).2.2 z hm fun k hk hw hp => hz k (List.mem_range.mp hk) hw (hp.trans hm)
theorem sub_lt {a n : Nat} : a < 2 ^ n ↔ ∀ f, a.testBit f = true → f < n := by
  constructor
  · intro h f hf
    apply Classical.byContradiction
    intro q
    have := Nat.testBit_lt_two_pow (Nat.lt_of_lt_of_le h (Nat.pow_le_pow_right (by decide) (Nat.le_of_not_lt q)) : a < 2 ^ f)
    rw [hf] at this
    cases this
  · intro h
    exact Nat.lt_pow_two_of_testBit a fun i hi => by
      cases q : a.testBit i with
      | false => rfl
      | true => have := h i q; omega
theorem hround_lt (v : WF t) {m : Nat} (h : m < 2 ^ t.facts) : hround t w m < 2 ^ t.facts := by
  have hc : Clo t w (2 ^ t.facts - 1) := fun k hk _ _ f hf => by
    rw [Nat.testBit_two_pow_sub_one]
    exact decide_eq_true (sub_lt.mp (v.at (act_mem hk)).add f hf)
  have := hround_le (t := t) (w := w) (m := m) (z := 2 ^ t.facts - 1) (fun f hf => by
    rw [Nat.testBit_two_pow_sub_one]
    exact decide_eq_true (sub_lt.mp h f hf)) hc
  refine sub_lt.mpr fun f hf => ?_
  have := this f hf
  rw [Nat.testBit_two_pow_sub_one] at this
  exact of_decide_eq_true this
def card (n m : Nat) : Nat := ((List.range n).filter m.testBit).length
theorem card_le (n m : Nat) : card n m ≤ n := by
  unfold card
  have := List.length_filter_le m.testBit (List.range n)
  rw [List.length_range] at this
  exact this
theorem card_lt {n a b : Nat} (hb : b < 2 ^ n) (h : Sub a b) (ne : b ≠ a) : card n a < card n b := by
  unfold card
  refine filter_lt (fun x _ hx => h x hx) ?_
  apply Classical.byContradiction
  intro q
  apply ne
  refine Sub.anti (fun f hf => ?_) h
  cases z : a.testBit f with
  | true => rfl
  | false => exact absurd ⟨f, List.mem_range.mpr (sub_lt.mp hb f hf), hf, z⟩ q
theorem had_stays {m : Nat} (h : hround t w m = m) : ∀ n, Pn18.had t w n m = m
  | 0 => rfl
  | n + 1 => by
    show Pn18.had t w n (hround t w m) = m
    rw [h]
    exact had_stays h n
theorem had_fix (v : WF t) : ∀ n m, m < 2 ^ t.facts → t.facts < n + card t.facts m → hround t w (Pn18.had t w n m) = Pn18.had t w n m
  | 0, m, hm, hc => by
    have := card_le t.facts m
    omega
  | n + 1, m, hm, hc => by
    by_cases q : hround t w m = m
    · rw [had_stays q (n + 1), q]
    · show hround t w (Pn18.had t w n (hround t w m)) = Pn18.had t w n (hround t w m)
      have := card_lt (hround_lt (w := w) v hm) (hround_sub m) q
      exact had_fix v n _ (hround_lt v hm) (by omega)
theorem had_sub : ∀ n m, Sub m (Pn18.had t w n m)
  | 0, m => Sub.refl m
  | n + 1, m => (hround_sub m).trans (had_sub n (hround t w m))
theorem had_le {z : Nat} (hz : Clo t w z) : ∀ n m, Sub m z → Sub (Pn18.had t w n m) z
  | 0, m, h => h
  | n + 1, m, h => had_le hz n (hround t w m) (hround_le h hz)
/-- all that can be had -/
def hadAll (t : Task) (w : List Nat) : Nat := Pn18.had t w (t.facts + 1) t.start
theorem hadAll_clo (v : WF t) : Clo t w (hadAll t w) := hround_clo (had_fix v _ _ v.st (by omega))
theorem hadAll_eq {z : Nat} (h1 : Sub t.start z) (h2 : Clo t w z) (h3 : Sub z (hadAll t w)) : z = hadAll t w := Sub.anti h3 (had_le h2 _ _ h1)
end
/-! the program's passes -/
def hstep (x : Nat) (a : Act) : Nat := if Pn.within a.pre x = true then x ||| a.add else x
def hpass (l : List Act) (x : Nat) : Nat := l.foldl hstep x
theorem hstep_sub (x : Nat) (a : Act) : Sub x (hstep x a) := by
  unfold hstep
  split
  · exact sub_or_l _ _
  · exact Sub.refl x
theorem hstep_le (x : Nat) (a : Act) : x ≤ hstep x a := by
  unfold hstep
  split
  · exact Nat.left_le_or
  · exact Nat.le_refl x
theorem hpass_le : ∀ (l : List Act) (x : Nat), x ≤ hpass l x
  | [], x => Nat.le_refl x
  | a :: l, x => Nat.le_trans (hstep_le x a) (hpass_le l (hstep x a))
theorem hpass_sub : ∀ (l : List Act) (x : Nat), Sub x (hpass l x)
  | [], x => Sub.refl x
  | a :: l, x => (hstep_sub x a).trans (hpass_sub l (hstep x a))
theorem hpass_in {z : Nat} : ∀ (l : List Act) (x : Nat), (∀ a ∈ l, Sub a.pre z → Sub a.add z) → Sub x z → Sub (hpass l x) z
  | [], x, _, hx => hx
  | a :: l, x, h, hx => by
    refine hpass_in l (hstep x a) (fun b hb => h b (List.mem_cons_of_mem _ hb)) ?_
    unfold hstep
    split
    · rename_i q
      exact or_sub hx (h a (List.mem_cons_self ..) ((within_iff.mp q).trans hx))
    · exact hx
theorem hpass_same : ∀ (l : List Act) (x : Nat), hpass l x = x → ∀ a ∈ l, Sub a.pre x → Sub a.add x
  | [], x, _, a, ha, _ => by cases ha
  | b :: l, x, h, a, ha, hp => by
    have h1 : hpass l (hstep x b) = x := h
    have h2 : hstep x b = x := Nat.le_antisymm (by
      have := hpass_le l (hstep x b)
      omega) (hstep_le x b)
    rw [h2] at h1
    rcases List.mem_cons.mp ha with rfl | ha
    · unfold hstep at h2
      rw [if_pos (within_iff.mpr hp)] at h2
      have := sub_or_r x a.add
      rw [h2] at this
      exact this
    · exact hpass_same l x h1 a ha hp
theorem hpass_snoc (l : List Act) (a : Act) (x : Nat) : hpass (l ++ [a]) x = hstep (hpass l x) a := by
  unfold hpass
  rw [List.foldl_append]
  rfl
def othersL (t : Task) (w : List Nat) : List Act := ((List.range t.acts.length).filter fun k => !w.contains k).map t.act
theorem others_mem {t : Task} {w : List Nat} {a : Act} : a ∈ othersL t w ↔ ∃ k, k < t.acts.length ∧ w.contains k = false ∧ t.act k = a := by
  unfold othersL
  rw [List.mem_map]
  constructor
  · rintro ⟨k, hk, e⟩
    obtain ⟨h1, h2⟩ := List.mem_filter.mp hk
    exact ⟨k, List.mem_range.mp h1, by simpa using h2, e⟩
  · rintro ⟨k, h1, h2, e⟩
    exact ⟨k, List.mem_filter.mpr ⟨List.mem_range.mpr h1, by rw [h2]; rfl⟩, e⟩
/-- how far the program is -/
structure HIs (t : Task) (w : List Nat) (x : Nat) : Prop where
  st : Sub t.start x
  le : Sub x (hadAll t w)
theorem HIs.start (t : Task) (w : List Nat) : HIs t w t.start := ⟨Sub.refl _, had_sub _ _⟩
theorem HIs.next {t : Task} {w : List Nat} {x : Nat} (v : WF t) (h : HIs t w x) : HIs t w (hpass (othersL t w) x) := ⟨h.st.trans (hpass_sub _ _), hpass_in _ _ (fun a ha hp => by
  obtain ⟨k, h1, h2, rfl⟩ := others_mem.mp ha
  exact hadAll_clo v k h1 h2 hp) h.le⟩
theorem HIs.done {t : Task} {w : List Nat} {x : Nat} (v : WF t) (h : HIs t w x) (e : hpass (othersL t w) x = x) : x = hadAll t w := hadAll_eq h.st (fun k hk hw hp => hpass_same _ _ e _ (others_mem.mpr ⟨k, hk, hw, rfl⟩) hp) h.le
theorem had_lt {t : Task} {w : List Nat} (v : WF t) : hadAll t w < 2 ^ t.facts := by
  have : ∀ n m, m < 2 ^ t.facts → Pn18.had t w n m < 2 ^ t.facts := by
    intro n
    induction n with
    | zero => intro m h; exact h
    | succ n ih => intro m h; exact ih _ (hround_lt v h)
  exact this _ _ v.st
theorem HIs.lt {t : Task} {w : List Nat} {x : Nat} (v : WF t) (h : HIs t w x) : x < 2 ^ t.facts := sub_lt.mpr fun f hf => sub_lt.mp (had_lt v) f (h.le f hf)
/-! ### 21. Plan and table as a pair -/
def pairCost (t : Task) (l : List Nat) : Nat := ((l.filter fun k => decide (k < t.acts.length)).map fun k => (t.act k).cost).sum
def pairL (t : Task) (l h : List Nat) : List Nat := if faultL (Pn18.checkPlan t (pairCost t l) 0 t.start 0 l) = [0] ∧ faultL (Pn18.checkTable t (pairCost t l) h) = [0] then [1, pairCost t l] else [0]
theorem plan_all {t : Task} {c : Nat} : ∀ (l : List Nat) (i s p : Nat), Pn18.checkPlan t c i s p l = none → ∀ k ∈ l, k < t.acts.length
  | [], _, _, _, _, k, hk => by cases hk
  | a :: l, i, s, p, h, k, hk => by
    unfold Pn18.checkPlan at h
    by_cases q : t.can s a = false
    · rw [if_pos q] at h
      cases h
    · rw [if_neg q] at h
      rcases List.mem_cons.mp hk with rfl | hk
      · have q : t.can s k = true := by simpa using q
        unfold Pn.Task.can at q
        exact of_decide_eq_true (Bool.and_eq_true_iff.mp q).1
      · exact plan_all l _ _ _ h k hk
theorem plan_zero {t : Task} {c : Nat} : ∀ (l : List Nat) (i s p : Nat), faultL (Pn18.checkPlan t c i s p l) = [0] ↔ Pn18.checkPlan t c i s p l = none
  | [], i, s, p => by
    unfold Pn18.checkPlan
    split
    · exact ⟨(fun h => by cases h), (fun h => by cases h)⟩
    · split
      · exact ⟨(fun h => by cases h), (fun h => by cases h)⟩
      · exact ⟨fun _ => rfl, fun _ => rfl⟩
  | n :: l, i, s, p => by
    unfold Pn18.checkPlan
    split
    · exact ⟨(fun h => by cases h), (fun h => by cases h)⟩
    · exact plan_zero l _ _ _
theorem pairCost_eq {t : Task} {l : List Nat} (h : ∀ k ∈ l, k < t.acts.length) : pairCost t l = t.price l := by
  unfold pairCost Pn.Task.price
  rw [sum_eq, List.filter_eq_self.mpr fun k hk => decide_eq_true (h k hk)]
theorem pair_eq (t : Task) (l h : List Nat) : Pn18Neutral.out (Pn18.step ⟨t⟩ (.pair l h)).2 = (pairL t l h).map fun (n : Nat) => (n : Int) := by
  have e : (Pn18.step ⟨t⟩ (.pair l h)).2 = match Pn18.checkPlan t (t.price l) 0 t.start 0 l, Pn18.checkTable t (t.price l) h with
    | none, none => ⟨1, [t.price l]⟩
    | _, _ => Pn18.ok 0 := rfl
  rw [e]
  by_cases q : ∀ k ∈ l, k < t.acts.length
  · unfold pairL
    rw [pairCost_eq q]
    have z1 := plan_zero (t := t) (c := t.price l) l 0 t.start 0
    have z2 := table_zero t (t.price l) h
    cases e1 : Pn18.checkPlan t (t.price l) 0 t.start 0 l with
    | some x =>
      rw [e1] at z1
      rw [if_neg (fun z => by cases z1.mp z.1)]
      rfl
    | none =>
      cases e2 : Pn18.checkTable t (t.price l) h with
      | some y =>
        rw [e2] at z2
        rw [if_neg (fun z => by cases z2.mp z.2)]
        rfl
      | none =>
        rw [if_pos ⟨rfl, rfl⟩]
        rfl
  · have n1 : ∀ c, Pn18.checkPlan t c 0 t.start 0 l ≠ none := fun c z => q (plan_all l _ _ _ z)
    unfold pairL
    rw [if_neg (fun z => n1 _ ((plan_zero l _ _ _).mp z.1))]
    cases e1 : Pn18.checkPlan t (t.price l) 0 t.start 0 l with
    | some x => rfl
    | none => exact absurd e1 (n1 _)
/-! ### 22. Cuts and clauses as they are told -/
def asCut (r : List Nat) : Nat × List Nat := (r.headD 0, r.tail)
def isCutB (n : Nat) (r : List Nat) : Bool := decide (0 < r.length) && r.tail.all fun k => decide (k < n)
theorem cut_some {n : Nat} {r : List Nat} : Pn18.cut? n r = if isCutB n r = true then some (asCut r) else none := by
  cases r with
  | nil => rfl
  | cons v l =>
    show (if l.all (fun k => decide (k < n)) = true then some (v, l) else none) = _
    rfl
theorem cuts_some {n : Nat} : ∀ (l : List (List Nat)), Pn18.cuts? n l = if l.all (isCutB n) = true then some (l.map asCut) else none
  | [] => rfl
  | r :: l => by
    show (match Pn18.cut? n r, Pn18.cuts? n l with
      | some x, some y => some (x :: y)
      | _, _ => none) = _
    rw [cut_some, cuts_some l, List.all_cons]
    cases isCutB n r with
    | false => rfl
    | true =>
      cases l.all (isCutB n) with
      | false => rfl
      | true => rfl
def pairUp : List Nat → List Clause
  | a :: b :: r => (a, b) :: pairUp r
  | _ => []
theorem pairUp_len : ∀ l : List Nat, (pairUp l).length = l.length / 2
  | [] => rfl
  | [a] => by
    show 0 = (0 + 1) / 2
    rfl
  | a :: b :: r => by
    show (pairUp r).length + 1 = (r.length + 1 + 1) / 2
    rw [pairUp_len r]
    omega
theorem pairUp_get : ∀ (l : List Nat) (i : Nat) (c : Clause), (pairUp l)[i]? = some c → l[2 * i]? = some c.1 ∧ l[2 * i + 1]? = some c.2
  | [], i, c, h => by cases h
  | [_], i, c, h => by cases h
  | a :: b :: r, 0, c, h => by
    cases (Option.some.inj h)
    exact ⟨rfl, rfl⟩
  | a :: b :: r, i + 1, c, h => pairUp_get r i c h
theorem pairs_some {n : Nat} : ∀ (l : List Nat), Pn02.pairs n l = if l.length % 2 = 0 ∧ (l.all fun k => decide (k < 2 * n)) = true then some (pairUp l) else none
  | [] => rfl
  | [_] => by rw [if_neg (fun z => by cases z.1)]; rfl
  | a :: b :: r => by
    show (if a < 2 * n ∧ b < 2 * n then (Pn02.pairs n r).map (fun l => (a, b) :: l) else none) = _
    rw [pairs_some r, List.all_cons, List.all_cons]
    have e : (a :: b :: r).length % 2 = r.length % 2 := by
      rw [List.length_cons, List.length_cons]
      omega
    rw [e]
    by_cases q : a < 2 * n ∧ b < 2 * n
    · rw [if_pos q, decide_eq_true q.1, decide_eq_true q.2, Bool.true_and, Bool.true_and]
      by_cases z : r.length % 2 = 0 ∧ (r.all fun k => decide (k < 2 * n)) = true
      · rw [if_pos z, if_pos z]
        rfl
      · rw [if_neg z, if_neg z]
        rfl
    · rw [if_neg q, if_neg]
      intro z
      rw [Bool.and_eq_true, Bool.and_eq_true, decide_eq_true_eq, decide_eq_true_eq] at z
      exact q ⟨z.2.1, z.2.2.1⟩
/-! ### 23. A task stays as it has to be -/
theorem wf_init : WF Pn18.init.task := ⟨by decide, by decide, by decide, (fun a h => by cases h), by decide, by decide⟩
theorem wf_step {t : Task} (w : WF t) (x : Pn18.Call) : WF (Pn18.step ⟨t⟩ x).1.task := by
  cases x with
  | begins n s g =>
    show WF (if n = 0 ∨ Pn18.FACTS < n ∨ 2 ^ n ≤ s ∨ 2 ^ n ≤ g then ((⟨t⟩ : Pn18.House), Pn18.ok (-1)) else (⟨⟨n, [], s, g⟩⟩, Pn18.ok 0)).1.task
    by_cases q : n = 0 ∨ Pn18.FACTS < n ∨ 2 ^ n ≤ s ∨ 2 ^ n ≤ g
    · rw [if_pos q]
      exact w
    · rw [if_neg q]
      unfold Pn18.FACTS at q
      exact ⟨by show 1 ≤ n; omega, by show n ≤ 4; omega, by show 0 ≤ 8; decide, (fun a h => by cases h), by show s < 2 ^ n; omega, by show g < 2 ^ n; omega⟩
  | act r =>
    show WF (if t.acts.length = Pn18.ACTS then ((⟨t⟩ : Pn18.House), Pn18.ok (-7)) else match Pn.act? t.facts r with
      | none => (⟨t⟩, Pn18.ok (-1))
      | some a => (⟨{ t with acts := t.acts ++ [a] }⟩, Pn18.ok (t.acts.length : Nat))).1.task
    by_cases q : t.acts.length = Pn18.ACTS
    · rw [if_pos q]
      exact w
    · rw [if_neg q]
      unfold Pn18.ACTS at q
      cases e : Pn.act? t.facts r with
      | none => exact w
      | some a =>
        have h8 := w.n8
        have ha : a.right t.facts = true := by
          unfold Pn.act? at e
          split at e
          · rename_i p q' a' d c
            by_cases z : (Act.mk p q' a' d c).right t.facts = true
            · simp only [z, if_true] at e
              cases (Option.some.inj e)
              exact z
            · simp only [z] at e
              cases e
          · cases e
        refine ⟨w.f1, w.f4, by show (t.acts ++ [a]).length ≤ 8; rw [List.length_append, List.length_singleton]; omega, fun b hb => ?_, w.st, w.gl⟩
        rcases List.mem_append.mp (show b ∈ t.acts ++ [a] from hb) with hb | hb
        · exact w.rt b hb
        · rw [List.mem_singleton.mp hb]
          exact ha
  | from_ s g =>
    show WF (if 2 ^ t.facts ≤ s ∨ 2 ^ t.facts ≤ g then ((⟨t⟩ : Pn18.House), Pn18.ok (-1)) else (⟨{ t with start := s, goal := g }⟩, Pn18.ok 0)).1.task
    by_cases q : 2 ^ t.facts ≤ s ∨ 2 ^ t.facts ≤ g
    · rw [if_pos q]
      exact w
    · rw [if_neg q]
      exact ⟨w.f1, w.f4, w.n8, w.rt, by show s < 2 ^ t.facts; omega, by show g < 2 ^ t.facts; omega⟩
  | own k =>
    show WF (if 4 < k then ((⟨t⟩ : Pn18.House), Pn18.ok (-1)) else (⟨t⟩, _)).1.task
    by_cases q : 4 < k
    · rw [if_pos q]
      exact w
    · rw [if_neg q]
      exact w
  | plan c l => exact w
  | table c h => exact w
  | cuts c l =>
    show WF (match Pn18.cuts? t.acts.length l with
      | none => ((⟨t⟩ : Pn18.House), Pn18.ok (-1))
      | some x => (⟨t⟩, Pn18.told (Pn18.check t (.cuts c x)))).1.task
    cases Pn18.cuts? t.acts.length l with
    | none => exact w
    | some x => exact w
  | set l =>
    show WF (if (l.any fun s => decide (2 ^ t.facts ≤ s)) = true then ((⟨t⟩ : Pn18.House), Pn18.ok (-1)) else (⟨t⟩, _)).1.task
    by_cases q : (l.any fun s => decide (2 ^ t.facts ≤ s)) = true
    · rw [if_pos q]
      exact w
    · rw [if_neg q]
      exact w
  | clauses l =>
    show WF (match Pn02.pairs t.facts l with
      | none => ((⟨t⟩ : Pn18.House), Pn18.ok (-1))
      | some x => (⟨t⟩, Pn18.told (Pn18.check t (.clauses x)))).1.task
    cases Pn02.pairs t.facts l with
    | none => exact w
    | some x => exact w
  | pair l h => exact w
end PC

set_option Elab.async false
set_option linter.all false
set_option maxRecDepth 100000
set_option maxHeartbeats 2000000
/-! # The program, def by def -/
namespace PC
open PySem PySem.Spec PyProof.Rows L2 Evl

/-! ### numbers as bits -/
theorem band (a b : Nat) : Builtin.bitAnd (a : Int) (b : Int) = ((a &&& b : Nat) : Int) := by
  rw [bitAnd_pp (Int.natCast_nonneg _) (Int.natCast_nonneg _), Int.toNat_natCast, Int.toNat_natCast]
theorem bor (a b : Nat) : Builtin.bitOr (a : Int) (b : Int) = ((a ||| b : Nat) : Int) := by
  rw [bitOr_nn (Int.natCast_nonneg _) (Int.natCast_nonneg _), Int.toNat_natCast, Int.toNat_natCast]
theorem bandNot (a b : Nat) : Builtin.bitAnd (a : Int) (Builtin.bitNot (b : Int)) = ((a - (a &&& b) : Nat) : Int) := by
  rw [bitAnd_not, band, Int.ofNat_sub Nat.and_le_left]
theorem int_eq_nat (a b : Nat) : decide ((V.int (a : Int)) = V.int (b : Int)) = (a == b) := by
  rw [Bool.eq_iff_iff, decide_eq_true_eq, beq_iff_eq]
  constructor
  · intro h
    injection h with h
    omega
  · intro h
    rw [h]
/-! ### words for what evaluates to what -/
section
variable {K : PySem.W.Frag} {σ : L2.St} {H H' : Hp} {ta tb te tx : TE} {t u : TT} {x y z v : V} {r : R2} {D : Ends} {tu tw tz : TS}
/-- e.f -/
theorem ev_fld {a C dx : Addr} {fs : List (Str × V)} {f : Str} (ha : Ev ta σ H (.ref a)) (h : H a = some (.ins C dx fs)) (c : Cls K C) (n : NoAttr K C f) (l : fs.lookup f = some v) : Ev (tFld K ta f) σ H v :=
  fun H1 e Q q => ha H1 e _ fun H2 e2 => ⟨a, C, dx, fs, v, rfl, (e.trans e2) a _ h, c, n, l, q H2 e2⟩
theorem ev_shr {i : Int} {n : Nat} (ha : Ev ta σ H (.int i)) (hb : Ev tb σ H (.int (n : Int))) : Ev (tOp (rI (fun _ j => 0 ≤ j) fun i j => .int (i / 2 ^ j.toNat)) ta tb) σ H (.int (i / 2 ^ n)) := ev_op ha hb (fun H1 _ _ q => ⟨i, (n : Int), rfl, rfl, Int.natCast_nonneg n, q H1 (Ex.refl H1)⟩)
theorem ev_band {a b : Nat} (ha : Ev ta σ H (.int (a : Int))) (hb : Ev tb σ H (.int (b : Int))) : Ev (tOp (rI0 fun i j => .int (Builtin.bitAnd i j)) ta tb) σ H (.int ((a &&& b : Nat) : Int)) := by
  rw [← band]
  exact ev_op ha hb rv_I0
theorem ev_bor {a b : Nat} (ha : Ev ta σ H (.int (a : Int))) (hb : Ev tb σ H (.int (b : Int))) : Ev (tOp (rI0 fun i j => .int (Builtin.bitOr i j)) ta tb) σ H (.int ((a ||| b : Nat) : Int)) := by
  rw [← bor]
  exact ev_op ha hb rv_I0
theorem ev_bandNot {a b : Nat} (ha : Ev ta σ H (.int (a : Int))) (hb : Ev tb σ H (.int (b : Int))) : Ev (tOp (rI0 fun i j => .int (Builtin.bitAnd i j)) ta (tUn (rU fun i => .int (Builtin.bitNot i)) tb)) σ H (.int ((a - (a &&& b) : Nat) : Int)) := by
  rw [← bandNot]
  exact ev_op ha (ev_un hb fun H1 _ _ q => ⟨_, rfl, q H1 (Ex.refl H1)⟩) rv_I0
theorem ev_eqN {a b : Nat} (ha : Ev ta σ H (.int (a : Int))) (hb : Ev tb σ H (.int (b : Int))) : Ev (tOp rEq ta tb) σ H (.bl (a == b)) := by
  rw [← int_eq_nat]
  exact ev_op ha hb (rv_eq rfl)
theorem ev_shl1 {n : Nat} (hn : n ≤ 1000) (hb : Ev tb σ H (.int (n : Int))) : Ev (tOp (rI CPow fun i j => .int (i * 2 ^ j.toNat)) (tC (.int 1)) tb) σ H (.int ((2 ^ n : Nat) : Int)) := by
  refine ev_is (ev_op ev_c hb (rv_I ⟨Int.natCast_nonneg n, by omega, by decide⟩)) ?_
  rw [Int.toNat_natCast, Int.one_mul, Int.natCast_pow]
  rfl
theorem ev_isN (ha : Ev ta σ H x) : Ev (tOp (fun x y H Q => y = .non ∧ Q (.bl (decide (x = .non))) H) ta (tC .non)) σ H (.bl (decide (x = .non))) := ev_op ha ev_c fun H1 _ _ q => ⟨rfl, q H1 (Ex.refl H1)⟩
theorem ev_notN (ha : Ev ta σ H x) : Ev (tOp (fun x y H Q => y = .non ∧ Q (.bl (!decide (x = .non))) H) ta (tC .non)) σ H (.bl (!decide (x = .non))) := ev_op ha ev_c fun H1 _ _ q => ⟨rfl, q H1 (Ex.refl H1)⟩
theorem et_int {i : Int} (ha : Ev ta σ H (.int i)) : EvT (fun σ H Q => ta σ H fun x H' => ∃ k, TruV K x H' k ∧ Q k H') σ H (i != 0) := fun H1 e _ q => ha H1 e _ fun H2 e2 => ⟨_, rfl, q H2 e2⟩
/-- a promise: a value is handed back, what was tracked stands -/
def spV (asks : List V → Hp → V → Prop) : Sp := fun vs H Q _ => ∃ z, asks vs H z ∧ RetV z H Q
/-- .. a new list -/
def spL (asks : List V → Hp → List V → Prop) : Sp := fun vs H Q _ => ∃ xs, asks vs H xs ∧ RetL xs H Q
theorem spV_of {asks : List V → Hp → V → Prop} {vs : List V} (h : ∀ H1, Ex H H1 → asks vs H1 z) : SpV (spV asks) vs H z := fun H1 e Q q _ => ⟨z, h H1 e, q⟩
theorem spL_of {asks : List V → Hp → List V → Prop} {vs xs : List V} (h : ∀ H1, Ex H H1 → asks vs H1 xs) : SpL (spL asks) vs H xs := fun H1 e Q q _ => ⟨xs, h H1 e, q⟩
end
/-! ### rules that name the written part by its letter (for a comprehension's block) -/
section
variable {X : Cx} {K : PySem.W.Frag}
theorem pe_fldK {e : Expr} {ta : TE} {f : Str} {pos : Pos} (hK : X.K = K) (he : PE X e ta) (hb : attributeBase e f X.env (eval e X.env) = eval e X.env) : PE X (.Attribute e f pos) (tFld K ta f) := by
  subst hK
  exact pe_fld he hb
theorem pg_tupK {es : List Expr} {k : Nat} {t : TGs} {n : Nat} {pos : Pos} (hK : X.K = K) (hc : X.calm = true) (h : PGs X es t) (hn : (assignEach es X.env).length = n := by rfl) (hst : (assignEach es X.env).findIdx? (·.1) = none := by rfl) : PG X (.Tuple es k pos) (gTup K n t) := by
  subst hK
  exact pg_tup hc h hn hst
theorem ix_listK (hK : X.K = K) : IxR X (rIxL K) := by
  subst hK
  exact ix_list
theorem ix_tupK (hK : X.K = K) : IxR X (rIxT K) := by
  subst hK
  exact ix_tup
theorem pi_listK {tg e : Expr} {t : TE} (hK : X.K = K) (h : PE X e t) : PI X tg e (iList K t) := by
  subst hK
  exact pi_list h
theorem sl_listK (hK : X.K = K) : SlR X (rSlL K) := by
  subst hK
  exact sl_list
theorem op_inK (hK : X.K = K) : OpR X (compareOp .In) (rIn K false) := by
  subst hK
  exact op_in_seq
theorem op_notInK (hK : X.K = K) : OpR X (compareOp .NotIn) (rIn K true) := by
  subst hK
  exact op_notIn_seq
theorem call_lenK (hK : X.K = K) : CallR X (.builtin "len") (rLenS K) := by
  subst hK
  exact call_len_seq
theorem cr_allK (hK : X.K = K) (hc : X.calm = true) : CallR X (.builtin "all") (rAll K) := by
  subst hK
  exact cr_all hc
theorem pt_truthK {a : Expr} {ta : TE} (hK : X.K = K) (ha : PE X a ta) (he : ∀ whole, isTrue a X.env whole = (do let v ← whole; standAt a.pos; holding [v] (truthy v))) :
    PT X a (fun σ H Q => ta σ H fun x H' => ∃ k, TruV K x H' k ∧ Q k H') := by
  subst hK
  exact pt_truth ha he
theorem pe_orTK {a b : Expr} {rest : List Expr} {ta tb : TE} {pos : Pos} (hK : X.K = K) (ha : PE X a ta) (hb : PE X (.BoolOp .Or (b :: rest) pos) tb) : PE X (.BoolOp .Or (a :: b :: rest) pos) (tOrT K ta tb) := by
  subst hK
  exact pe_orT ha hb
end
/-- a def of the top, and what it promises -/
def Def (P : Program) (w : World) (K : PySem.W.Frag) (mg : Str → Option Value) (base : Heap) (x : Str) (k : Nat) (ps : List Str) (sp : Sp) : Prop :=
  ∃ (f : Addr) (fd : FuncData), mg x = some (.ref f) ∧ PySem.W.keepIn K (.ref f) = true ∧ Binds K fd ps [] ∧ FnOk P w K mg base CX0 k f fd ps sp
/-- a class of the top that makes instances by its __init__ -/
def DefC (P : Program) (w : World) (K : PySem.W.Frag) (mg : Str → Option Value) (base : Heap) (x : Str) (C : Addr) (k : Nat) (ps : List Str) (sp : Sp) : Prop :=
  ∃ (f : Addr) (fd : FuncData), mg x = some (.ref C) ∧ Mk K C f ∧ Binds K fd ps [] ∧ FnOk P w K mg base CX0 k f fd ps sp
/-- a method -/
def DefM (P : Program) (w : World) (K : PySem.W.Frag) (mg : Str → Option Value) (base : Heap) (C : Addr) (m : Str) (k : Nat) (ps : List Str) (sp : Sp) : Prop :=
  ∃ (f : Addr) (fd : FuncData), Meth K C m f ∧ Binds K fd ps [] ∧ FnOk P w K mg base CX0 k f fd ps sp
/-- a number that the top names -/
def Cst (mg : Str → Option Value) (x : Str) (n : Int) : Prop := ∃ t, mg x = some (.int n t)
theorem pe_cst {X : Cx} {x : Str} {n : Int} {pos : Pos} (hg : Gl X x) (h : Cst X.mg x n) (hd : (x == ("__debug__" : Str)) = false := by decide) : PE X (.Name x pos) (tC (.int n)) := by
  obtain ⟨t, h⟩ := h
  exact pe_glob hg h ⟨t, rfl⟩ hd
/-! ### the text by places -/
def top (i : Nat) : Stmt := PySem.Challenge.pw_proofcheck_s01_answers.main.body.getD i (.Pass ⟨0, 0, 0, 0⟩)
/-! ### the classes -/
structure Ad where
  act : Addr
  task : Addr
  eased : Addr
  cut : Addr
  call : Addr
  house : Addr
structure Top (K : PySem.W.Frag) (mg : Str → Option Value) (A : Ad) : Prop where
  b_len : mg "len" = none
  b_range : mg "range" = none
  b_list : mg "list" = none
  b_enumerate : mg "enumerate" = none
  b_min : mg "min" = none
  b_max : mg "max" = none
  b_sum : mg "sum" = none
  b_any : mg "any" = none
  b_all : mg "all" = none
  b_sorted : mg "sorted" = none
  c_PLAN_own : Cst mg "PLAN_own" 0
  c_TABLE_own : Cst mg "TABLE_own" 1
  c_CUTS_own : Cst mg "CUTS_own" 2
  c_STATES : Cst mg "STATES" 3
  c_CLAUSES_own : Cst mg "CLAUSES_own" 4
  cAct : Cls K A.act
  nNeeds : NoAttr K A.act "needs"
  nBars : NoAttr K A.act "bars"
  nBrings : NoAttr K A.act "brings"
  nTakes : NoAttr K A.act "takes"
  nCost : NoAttr K A.act "cost"
  cTask : Cls K A.task
  nFacts : NoAttr K A.task "facts"
  nSo : NoAttr K A.task "so"
  nWanted : NoAttr K A.task "wanted"
  nActs : NoAttr K A.task "acts"
  cEased : Cls K A.eased
  nEnd : NoAttr K A.eased "end"
  nESo : NoAttr K A.eased "so"
  nENeeds : NoAttr K A.eased "needs"
  nEBrings : NoAttr K A.eased "brings"
  cCut : Cls K A.cut
  nWorth : NoAttr K A.cut "worth"
  nCActs : NoAttr K A.cut "acts"
  cCall : Cls K A.call
  nNumber : NoAttr K A.call "number"
  nNumbers : NoAttr K A.call "numbers"
  nLists : NoAttr K A.call "lists"
  cHouse : Cls K A.house
  nTask : NoAttr K A.house "task"
  c_MOST_FACTS : Cst mg "MOST_FACTS" 4
  c_MOST_ACTS : Cst mg "MOST_ACTS" 8
  c_MOST_COST : Cst mg "MOST_COST" 1000
  c_BEGINS : Cst mg "BEGINS" 0
  c_ACT : Cst mg "ACT" 1
  c_FROM_STATE : Cst mg "FROM_STATE" 2
  c_OWN : Cst mg "OWN" 3
  c_PLAN_house : Cst mg "PLAN_house" 4
  c_TABLE_house : Cst mg "TABLE_house" 5
  c_CUTS_house : Cst mg "CUTS_house" 6
  c_SET : Cst mg "SET" 7
  c_CLAUSES_house : Cst mg "CLAUSES_house" 8
/-! ### what lies in the heap -/
def actF (a : Pn.Act) : List (Str × V) := [("needs", .int (a.pre : Int)), ("bars", .int (a.no : Int)), ("brings", .int (a.add : Int)), ("takes", .int (a.del : Int)), ("cost", .int (a.cost : Int))]
def ActAt (A : Ad) (H : Hp) (p : Addr) (a : Pn.Act) : Prop := ∃ dx, H p = some (.ins A.act dx (actF a))
theorem ActAt.ex {A : Ad} {H H' : Hp} {p : Addr} {a : Pn.Act} (e : Ex H H') (h : ActAt A H p a) : ActAt A H' p a := by
  obtain ⟨dx, h⟩ := h
  exact ⟨dx, e _ _ h⟩
theorem lk_here {k : Str} {x : V} {more : List (Str × V)} : List.lookup k ((k, x) :: more) = some x := by
  rw [List.lookup_cons, beq_self_eq_true k]
theorem lk_past {k g : Str} {v w : V} {r : List (Str × V)} (h : (k == g) = false) (q : List.lookup k r = some w) : List.lookup k ((g, v) :: r) = some w := by
  simp only [List.lookup, h]
  exact q
theorem actF_needs (a : Pn.Act) : (actF a).lookup ("needs" : Str) = some (.int (a.pre : Int)) := lk_here
theorem actF_bars (a : Pn.Act) : (actF a).lookup ("bars" : Str) = some (.int (a.no : Int)) := lk_past (by decide +kernel) lk_here
theorem actF_brings (a : Pn.Act) : (actF a).lookup ("brings" : Str) = some (.int (a.add : Int)) := lk_past (by decide +kernel) (lk_past (by decide +kernel) lk_here)
theorem actF_takes (a : Pn.Act) : (actF a).lookup ("takes" : Str) = some (.int (a.del : Int)) := lk_past (by decide +kernel) (lk_past (by decide +kernel) (lk_past (by decide +kernel) lk_here))
theorem actF_cost (a : Pn.Act) : (actF a).lookup ("cost" : Str) = some (.int (a.cost : Int)) := lk_past (by decide +kernel) (lk_past (by decide +kernel) (lk_past (by decide +kernel) (lk_past (by decide +kernel) lk_here)))
def taskF (t : Pn.Task) (la : Addr) : List (Str × V) := [("facts", .int (t.facts : Int)), ("so", .int (t.start : Int)), ("wanted", .int (t.goal : Int)), ("acts", .ref la)]
structure TaskAt (A : Ad) (H : Hp) (p : Addr) (t : Pn.Task) : Prop where
  ex : ∃ (dx la : Addr) (as : List Addr), H p = some (.ins A.task dx (taskF t la)) ∧ H la = some (.lst (as.map V.ref)) ∧ as.length = t.acts.length ∧ ∀ (i : Nat) (x : Pn.Act), t.acts[i]? = some x → ∃ a : Addr, as[i]? = some a ∧ ActAt A H a x
theorem TaskAt.mono {A : Ad} {H H' : Hp} {p : Addr} {t : Pn.Task} (e : Ex H H') (h : TaskAt A H p t) : TaskAt A H' p t := by
  obtain ⟨dx, la, as, h1, h2, h3, h4⟩ := h.ex
  refine ⟨dx, la, as, e _ _ h1, e _ _ h2, h3, fun i x hx => ?_⟩
  obtain ⟨a, ha, h5⟩ := h4 i x hx
  exact ⟨a, ha, h5.ex e⟩
theorem taskF_facts (t : Pn.Task) (la : Addr) : (taskF t la).lookup ("facts" : Str) = some (.int (t.facts : Int)) := lk_here
theorem taskF_so (t : Pn.Task) (la : Addr) : (taskF t la).lookup ("so" : Str) = some (.int (t.start : Int)) := lk_past (by decide +kernel) lk_here
theorem taskF_wanted (t : Pn.Task) (la : Addr) : (taskF t la).lookup ("wanted" : Str) = some (.int (t.goal : Int)) := lk_past (by decide +kernel) (lk_past (by decide +kernel) lk_here)
theorem taskF_acts (t : Pn.Task) (la : Addr) : (taskF t la).lookup ("acts" : Str) = some (.ref la) := lk_past (by decide +kernel) (lk_past (by decide +kernel) (lk_past (by decide +kernel) lk_here))
section
variable {K : PySem.W.Frag} {mg : Str → Option Value} {A : Ad} {σ : L2.St} {H H' : Hp} {ta tb te : TE} {p : Addr} {a : Pn.Act} {t : Pn.Task}
theorem ev_needs (T : Top K mg A) (h : ActAt A H p a) (ha : Ev ta σ H (.ref p)) : Ev (tFld K ta "needs") σ H (.int (a.pre : Int)) := by
  obtain ⟨dx, h⟩ := h
  exact ev_fld ha h T.cAct T.nNeeds (actF_needs a)
theorem ev_bars (T : Top K mg A) (h : ActAt A H p a) (ha : Ev ta σ H (.ref p)) : Ev (tFld K ta "bars") σ H (.int (a.no : Int)) := by
  obtain ⟨dx, h⟩ := h
  exact ev_fld ha h T.cAct T.nBars (actF_bars a)
theorem ev_brings (T : Top K mg A) (h : ActAt A H p a) (ha : Ev ta σ H (.ref p)) : Ev (tFld K ta "brings") σ H (.int (a.add : Int)) := by
  obtain ⟨dx, h⟩ := h
  exact ev_fld ha h T.cAct T.nBrings (actF_brings a)
theorem ev_takes (T : Top K mg A) (h : ActAt A H p a) (ha : Ev ta σ H (.ref p)) : Ev (tFld K ta "takes") σ H (.int (a.del : Int)) := by
  obtain ⟨dx, h⟩ := h
  exact ev_fld ha h T.cAct T.nTakes (actF_takes a)
theorem ev_cost (T : Top K mg A) (h : ActAt A H p a) (ha : Ev ta σ H (.ref p)) : Ev (tFld K ta "cost") σ H (.int (a.cost : Int)) := by
  obtain ⟨dx, h⟩ := h
  exact ev_fld ha h T.cAct T.nCost (actF_cost a)
theorem ev_facts (T : Top K mg A) (h : TaskAt A H p t) (ha : Ev ta σ H (.ref p)) : Ev (tFld K ta "facts") σ H (.int (t.facts : Int)) := by
  obtain ⟨dx, la, as, h, _⟩ := h.ex
  exact ev_fld ha h T.cTask T.nFacts (taskF_facts t la)
theorem ev_so (T : Top K mg A) (h : TaskAt A H p t) (ha : Ev ta σ H (.ref p)) : Ev (tFld K ta "so") σ H (.int (t.start : Int)) := by
  obtain ⟨dx, la, as, h, _⟩ := h.ex
  exact ev_fld ha h T.cTask T.nSo (taskF_so t la)
theorem ev_wanted (T : Top K mg A) (h : TaskAt A H p t) (ha : Ev ta σ H (.ref p)) : Ev (tFld K ta "wanted") σ H (.int (t.goal : Int)) := by
  obtain ⟨dx, la, as, h, _⟩ := h.ex
  exact ev_fld ha h T.cTask T.nWanted (taskF_wanted t la)
end
end PC

set_option Elab.async false
set_option linter.all false
set_option maxRecDepth 100000
set_option maxHeartbeats 2000000
namespace PC
open PySem PySem.Spec PyProof.Rows L2 Evl
section
variable {P : Program} {w : World} {K : PySem.W.Frag} {mg : Str → Option Value} {base : Heap} {A : Ad} {f : Addr} {fd : FuncData}
/-! ### tasks -/
abbrev s_are_there : Stmt := top 3
abbrev N_are_there : List Str := ["facts", "group"]
theorem sc_are_there : FnScope N_are_there ["facts", "group"] (defScope s_are_there) := ⟨rfl, rfl, rfl, by decide +kernel, rfl, by decide +kernel, by decide +kernel⟩
abbrev s_states_of : Stmt := top 4
abbrev N_states_of : List Str := ["task"]
theorem sc_states_of : FnScope N_states_of ["task"] (defScope s_states_of) := ⟨rfl, rfl, rfl, by decide +kernel, rfl, by decide +kernel, by decide +kernel⟩
abbrev s_as_wanted : Stmt := top 5
abbrev N_as_wanted : List Str := ["task", "state"]
theorem sc_as_wanted : FnScope N_as_wanted ["task", "state"] (defScope s_as_wanted) := ⟨rfl, rfl, rfl, by decide +kernel, rfl, by decide +kernel, by decide +kernel⟩
abbrev s_may_be_done : Stmt := top 6
abbrev N_may_be_done : List Str := ["act", "state"]
theorem sc_may_be_done : FnScope N_may_be_done ["act", "state"] (defScope s_may_be_done) := ⟨rfl, rfl, rfl, by decide +kernel, rfl, by decide +kernel, by decide +kernel⟩
abbrev s_behind : Stmt := top 7
abbrev N_behind : List Str := ["act", "state"]
theorem sc_behind : FnScope N_behind ["act", "state"] (defScope s_behind) := ⟨rfl, rfl, rfl, by decide +kernel, rfl, by decide +kernel, by decide +kernel⟩
def sp_are_there (_ : PySem.W.Frag) (_ : Ad) : Sp := spV fun vs _ z => ∃ n g : Nat, vs = [.int (n : Int), .int (g : Int)] ∧ z = .bl (decide (g < 2 ^ n))
theorem shr_nat (g n : Nat) : ((g : Int) / 2 ^ n) = ((g / 2 ^ n : Nat) : Int) := by
  rw [Int.natCast_ediv, Int.natCast_pow]
  rfl
theorem shr_zero (g n : Nat) : decide ((V.int ((g : Int) / 2 ^ n)) = V.int 0) = decide (g < 2 ^ n) := by
  refine decide_eq_decide.mpr ?_
  rw [shr_nat]
  have := Nat.two_pow_pos n
  constructor
  · intro h
    injection h with h
    have h : g / 2 ^ n = 0 := by omega
    exact (Nat.div_eq_zero_iff.mp h).resolve_left (by omega)
  · intro h
    rw [Nat.div_eq_of_lt h]
    rfl
theorem d_are_there (T : Top K mg A) (F : Fun K "are_there" "are_there" s_are_there f fd) (hf : mg "are_there" = some (.ref f))  : Def P w K mg base "are_there" 1 ["facts", "group"] (sp_are_there K A) := by
  refine ⟨f, fd, hf, F.kp, F.binds (fun _ _ _ _ _ _ us hl => match us, hl with | [_, _], _ => rfl), F.ok sc_are_there (fun vs H Q E h => ?_) (fun cdv A' outer s H vs Q E hr h => ?_)⟩
  · obtain ⟨z, ⟨n, g, rfl, rfl⟩, k⟩ := h
    rfl
  obtain ⟨z, ⟨n, g, rfl, rfl⟩, k⟩ := h
  refine ⟨_, (pss_one (ps_ret (pe_cmpR op_eq (pe_op op_shr (pv 1) (pv 0)) pe_int (nomark _)))), ?_⟩
  refine s_ret (v := .bl (decide (g < 2 ^ n))) ?_ (fun H1 e => k.go e)
  rw [← shr_zero]
  exact ev_op (ev_shr (ev_var rfl) (ev_var rfl)) ev_c (rv_eq rfl)
/-- numbers as values -/
def natV (n : Nat) : V := .int (n : Int)
def sp_states_of (_ : PySem.W.Frag) (A : Ad) : Sp := spL fun vs H xs => ∃ p t, vs = [.ref p] ∧ TaskAt A H p t ∧ t.facts ≤ 4 ∧ xs = (List.range (2 ^ t.facts)).map natV
theorem d_states_of (T : Top K mg A) (F : Fun K "states_of" "states_of" s_states_of f fd) (hf : mg "states_of" = some (.ref f))  : Def P w K mg base "states_of" 1 ["task"] (sp_states_of K A) := by
  refine ⟨f, fd, hf, F.kp, F.binds (fun _ _ _ _ _ _ us hl => match us, hl with | [_], _ => rfl), F.ok sc_states_of (fun vs H Q E h => ?_) (fun cdv A' outer s H vs Q E hr h => ?_)⟩
  · obtain ⟨z, ⟨p, t, rfl, ht, h4, rfl⟩, k⟩ := h
    rfl
  obtain ⟨z, ⟨p, t, rfl, ht, h4, rfl⟩, k⟩ := h
  refine ⟨_, (pss_one (ps_ret (pe_listRg rfl rfl T.b_list (prg_1 rfl T.b_range (pe_op op_shl pe_int (pe_fldK (K := K) rfl (pv 0) rfl)))))), ?_⟩
  have e1 := ev_shl1 (n := t.facts) (by omega) (ev_facts T ht (ev_var (σ := start N_states_of [.ref p]) (i := 0) rfl))
  refine e1 H (Ex.refl H) _ fun H1 e => ?_
  have hp : 2 ^ t.facts ≤ 16 := Nat.pow_le_pow_right (by decide) h4
  refine ⟨_, rfl, RgOk.of_le (by decide) (by omega) (by decide) (Int.natCast_nonneg _), fun q hq => ?_⟩
  refine k q _ (fresh_back e hq) (e.trans (Ex.new hq)) ?_
  rw [upd_same]
  unfold rgV natV
  rw [Int.sub_zero, Int.toNat_natCast]
  refine congrArg (fun l => some (HO.lst l)) (List.map_congr_left fun i _ => ?_)
  rw [Int.zero_add]
def sp_as_wanted (_ : PySem.W.Frag) (A : Ad) : Sp := spV fun vs H z => ∃ p t s, vs = [.ref p, natV s] ∧ TaskAt A H p t ∧ z = .bl (t.done s)
theorem d_as_wanted (T : Top K mg A) (F : Fun K "as_wanted" "as_wanted" s_as_wanted f fd) (hf : mg "as_wanted" = some (.ref f))  : Def P w K mg base "as_wanted" 1 ["task", "state"] (sp_as_wanted K A) := by
  refine ⟨f, fd, hf, F.kp, F.binds (fun _ _ _ _ _ _ us hl => match us, hl with | [_, _], _ => rfl), F.ok sc_as_wanted (fun vs H Q E h => ?_) (fun cdv A' outer s H vs Q E hr h => ?_)⟩
  · obtain ⟨z, ⟨p, t, s, rfl, ht, rfl⟩, k⟩ := h
    rfl
  obtain ⟨z, ⟨p, t, s, rfl, ht, rfl⟩, k⟩ := h
  refine ⟨_, (pss_one (ps_ret (pe_cmpR op_eq (pe_op op_and (pv 1) (pe_fldK (K := K) rfl (pv 0) rfl)) (pe_fldK (K := K) rfl (pv 0) rfl) (nomark _)))), ?_⟩
  refine s_ret (v := .bl (t.done s)) ?_ (fun H1 e => k.go e)
  refine ev_is (ev_eqN (ev_band (a := s) (ev_var rfl) (ev_wanted T ht (ev_var rfl))) (ev_wanted T ht (ev_var rfl))) ?_
  unfold Pn.Task.done Pn.within
  rw [Nat.and_comm]
  rfl
def sp_may_be_done (_ : PySem.W.Frag) (A : Ad) : Sp := spV fun vs H z => ∃ p a s, vs = [.ref p, natV s] ∧ ActAt A H p a ∧ z = .bl (a.may s)
theorem d_may_be_done (T : Top K mg A) (F : Fun K "may_be_done" "may_be_done" s_may_be_done f fd) (hf : mg "may_be_done" = some (.ref f))  : Def P w K mg base "may_be_done" 1 ["act", "state"] (sp_may_be_done K A) := by
  refine ⟨f, fd, hf, F.kp, F.binds (fun _ _ _ _ _ _ us hl => match us, hl with | [_, _], _ => rfl), F.ok sc_may_be_done (fun vs H Q E h => ?_) (fun cdv A' outer s H vs Q E hr h => ?_)⟩
  · obtain ⟨z, ⟨p, a, s, rfl, ha, rfl⟩, k⟩ := h
    rfl
  obtain ⟨z, ⟨p, a, s, rfl, ha, rfl⟩, k⟩ := h
  refine ⟨_, (pss_one (ps_ret (pe_and (pe_cmpR op_eq (pe_op op_and (pv 1) (pe_fldK (K := K) rfl (pv 0) rfl)) (pe_fldK (K := K) rfl (pv 0) rfl) (nomark _)) (pe_one (pe_cmpR op_eq (pe_op op_and (pv 1) (pe_fldK (K := K) rfl (pv 0) rfl)) pe_int (nomark _)))))), ?_⟩
  refine s_ret (v := .bl (a.may s)) ?_ (fun H1 e => k.go e)
  refine ev_is (ev_andV (b := s &&& a.no == 0) (ev_eqN (ev_band (a := s) (ev_var rfl) (ev_needs T ha (ev_var rfl))) (ev_needs T ha (ev_var rfl))) (fun _ => ev_eqN (b := 0) (ev_band (a := s) (ev_var rfl) (ev_bars T ha (ev_var rfl))) ev_c)) ?_
  unfold Pn.Act.may Pn.within Pn.apart
  rw [Nat.and_comm, Nat.and_comm s a.no]
  rfl
def sp_behind (_ : PySem.W.Frag) (A : Ad) : Sp := spV fun vs H z => ∃ p a s, vs = [.ref p, natV s] ∧ ActAt A H p a ∧ z = natV (a.then_ s)
theorem d_behind (T : Top K mg A) (F : Fun K "behind" "behind" s_behind f fd) (hf : mg "behind" = some (.ref f))  : Def P w K mg base "behind" 1 ["act", "state"] (sp_behind K A) := by
  refine ⟨f, fd, hf, F.kp, F.binds (fun _ _ _ _ _ _ us hl => match us, hl with | [_, _], _ => rfl), F.ok sc_behind (fun vs H Q E h => ?_) (fun cdv A' outer s H vs Q E hr h => ?_)⟩
  · obtain ⟨z, ⟨p, a, s, rfl, ha, rfl⟩, k⟩ := h
    rfl
  obtain ⟨z, ⟨p, a, s, rfl, ha, rfl⟩, k⟩ := h
  refine ⟨_, (pss_one (ps_ret (pe_op op_or (pe_op op_and (pv 1) (pe_un un_inv (pe_fldK (K := K) rfl (pv 0) rfl))) (pe_fldK (K := K) rfl (pv 0) rfl)))), ?_⟩
  refine s_ret (v := natV (a.then_ s)) ?_ (fun H1 e => k.go e)
  exact ev_bor (a := s - (s &&& a.del)) (ev_bandNot (a := s) (ev_var rfl) (ev_takes T ha (ev_var rfl))) (ev_brings T ha (ev_var rfl))
end
end PC

set_option Elab.async false
set_option linter.all false
set_option maxRecDepth 100000
set_option maxHeartbeats 2000000
namespace PC
open PySem PySem.Spec PyProof.Rows L2 Evl
/-! ### two rules more: min(xs, default=d); xs[i] -= e -/
theorem reads_ints {h : Heap} : ∀ {vs : List Value} {ns : List Int}, IntsAre vs ns → ∃ as, ReadsAll h vs (ns.map PyData.int) as
  | _, _, .nil => ⟨_, .nil⟩
  | _, _, .cons n t r => by
    obtain ⟨as, ra⟩ := reads_ints (h := h) r
    exact ⟨_, .cons (.int n t) ra⟩
theorem alike_ints (ns : List Int) : PySem.W.AlikeAll (ns.map PyData.int) := by
  refine ⟨fun x hx y hy => ?_, fun x hx => ?_⟩
  · obtain ⟨a, _, rfl⟩ := List.mem_map.mp hx
    obtain ⟨b, _, rfl⟩ := List.mem_map.mp hy
    rfl
  · obtain ⟨a, _, rfl⟩ := List.mem_map.mp hx
    intro e
    cases e
theorem depth_ints : ∀ ns : List Int, PyData.depthAll (ns.map PyData.int) ≤ 1
  | [] => by
    rw [List.map_nil]
    unfold PyData.depthAll
    omega
  | n :: ns => by
    have := depth_ints ns
    rw [List.map_cons]
    unfold PyData.depthAll
    have e : PyData.depth (.int n) ≤ 1 := by
      unfold PyData.depth
      omega
    omega
theorem foldmin_int : ∀ (l : List Int) (b : Int), l.foldl min b ≤ b ∧ (∀ x ∈ l, l.foldl min b ≤ x) ∧ (l.foldl min b = b ∨ l.foldl min b ∈ l)
  | [], b => ⟨Int.le_refl _, (fun _ h => by cases h), .inl rfl⟩
  | a :: l, b => by
    rw [List.foldl_cons]
    obtain ⟨h1, h2, h3⟩ := foldmin_int l (min b a)
    refine ⟨by omega, fun x hx => ?_, ?_⟩
    · rcases List.mem_cons.mp hx with e | hx
      · subst e; omega
      · exact h2 x hx
    · rcases h3 with e | h
      · rw [e]
        by_cases c : b ≤ a
        · exact .inl (by omega)
        · refine .inr ?_
          rw [show min b a = a by omega]
          exact List.mem_cons_self ..
      · exact .inr (List.mem_cons_of_mem _ h)
def rMinDflt (K : PySem.W.Frag) : List V → List V → Hp → VK → Prop := fun vs zs H Q => ∃ (a : Addr) (ns : List Int) (d : V), vs = [V.ref a] ∧ zs = [d] ∧ SqL K H a (ns.map V.int) ∧ (ns = [] → Q d H) ∧ ∀ m, m ∈ ns → (∀ y, y ∈ ns → m ≤ y) → Q (.int m) H
theorem cr_minDflt {X : Cx} (hc : X.calm = true) (hu : X.A.units + 64 < cLine) : CallRK X (.builtin "min") ["default"] (rMinDflt X.K) := by
  intro pins s σ H vs zs us ws Q I r rz h
  obtain ⟨a, ns, d, rfl, rfl, hs, h0, h1⟩ := h
  obtain ⟨its, rv, hl, _⟩ := I.list hs
  rw [Vals.ref1 r]
  cases rz with
  | cons rd rn =>
    cases rn
    obtain ⟨as, ra⟩ := reads_ints (h := s.heap) rv.ints
    have hd := depth_ints ns
    refine PySem.W.min_list_default (xs := ns.map PyData.int) (as := as) (I.ok.hd hc) hl.isList (by simpa using ra) (alike_ints ns) (by omega) (fun e h' tk hk => ?_) (fun y ys i v h' tk bs e hv hr hk => ?_)
    · have e : ns = [] := by
        cases ns with
        | nil => rfl
        | cons a b => cases e
      exact ⟨d, H, I.kept hk, rd, h0 e⟩
    · cases ns with
      | nil => cases e
      | cons n ms =>
        rw [List.map_cons] at e
        injection e with e1 e2
        subst e1 e2
        rw [PySem.W.minD_ints] at hr
        obtain ⟨g1, g2, g3⟩ := foldmin_int ms n
        cases hr with
        | int i t =>
          refine ⟨.int _, H, I.kept hk, ⟨t, rfl⟩, h1 _ ?_ fun y hy => ?_⟩
          · rcases g3 with q | q
            · rw [q]; exact List.mem_cons_self ..
            · exact List.mem_cons_of_mem _ q
          · rcases List.mem_cons.mp hy with q | q
            · rw [q]; exact g1
            · exact g2 y q
theorem pget_list {X : Cx} : PGet X (rIxL X.K) := by
  rintro pins s σ H _ _ ov iv Q inv ro ri ⟨p, xs, k, z, rfl, rfl, sq, at0, goal⟩
  cases ro
  rcases ri with ⟨tk, rfl⟩
  obtain ⟨items, vals, place, _⟩ := inv.list sq
  obtain ⟨j, ix, gx, _, neg, up⟩ := atI_get at0
  obtain ⟨got, eg, rel⟩ := vals.get gx
  have len := vals.length
  have line := line63
  have done : EP X pins σ Q got s := ⟨z, H, inv, rel, goal⟩
  rcases Int.lt_or_le k 0 with below | above
  · have same : (k + (items.toArray.size : Int)).toNat = j := by
      rw [seqIndex_neg below neg, Option.some.injEq] at ix
      rw [List.size_toArray, ← len, ix]
    exact wpAny_getItem_list_neg place.isList below (by rw [List.size_toArray]; omega) (by omega) (by rw [same]; simpa using eg) done
  · have same : k.toNat = j := by
      rw [seqIndex_of above up, Option.some.injEq] at ix
      exact ix
    exact wpAny_getItem_list place.isList above (by omega) (by rw [same]; simpa using eg) done
end PC

set_option Elab.async false
set_option linter.all false
set_option maxRecDepth 100000
set_option maxHeartbeats 2000000
namespace PC
open PySem PySem.Spec PyProof.Rows L2 Evl
/-! ### rows of numbers and None -/
def optV : Option Nat → V
  | none => .non
  | some n => natV n
def optD : Option Nat → PyData
  | none => .none
  | some n => .int (n : Int)
theorem eqv_opt (a b : Option Nat) : PyData.eqv (optD a) (optD b) = decide (a = b) := by
  cases a with
  | none =>
    cases b with
    | none => unfold optD PyData.eqv; rfl
    | some y => unfold optD PyData.eqv; rfl
  | some x =>
    cases b with
    | none => unfold optD PyData.eqv; rfl
    | some y =>
      unfold optD PyData.eqv
      rw [Bool.eq_iff_iff, beq_iff_eq, decide_eq_true_eq]
      constructor
      · intro h
        congr 1
        omega
      · intro h
        injection h with h
        rw [h]
theorem eqv_row : ∀ (l m : List (Option Nat)), PyData.eqvAll (l.map optD) (m.map optD) = decide (l = m)
  | [], [] => by unfold PyData.eqvAll; rfl
  | [], b :: m => by unfold PyData.eqvAll; rfl
  | a :: l, [] => by unfold PyData.eqvAll; rfl
  | a :: l, b :: m => by
    show PyData.eqvAll (optD a :: l.map optD) (optD b :: m.map optD) = _
    unfold PyData.eqvAll
    rw [eqv_opt, eqv_row l m, Bool.eq_iff_iff]
    simp
theorem dp_row {K : PySem.W.Frag} {H : Hp} : ∀ l : List (Option Nat), DpAll K H (l.map optV) (l.map optD)
  | [] => .nil
  | none :: l => .cons .non (dp_row l)
  | some n :: l => .cons (.int _) (dp_row l)
theorem can_row : ∀ l : List (Option Nat), PyData.canLayAll0 (l.map optD) = true
  | [] => by unfold PyData.canLayAll0; rfl
  | none :: l => by
    show PyData.canLayAll0 (PyData.none :: l.map optD) = true
    unfold PyData.canLayAll0
    rw [can_row l]
    rfl
  | some n :: l => by
    show PyData.canLayAll0 (PyData.int _ :: l.map optD) = true
    unfold PyData.canLayAll0
    rw [can_row l]
    rfl
theorem depth_row : ∀ l : List (Option Nat), PyData.depthAll (l.map optD) ≤ 1
  | [] => by rw [List.map_nil]; unfold PyData.depthAll; omega
  | a :: l => by
    have := depth_row l
    rw [List.map_cons]
    unfold PyData.depthAll
    have e : PyData.depth (optD a) ≤ 1 := by
      cases a <;> (unfold optD PyData.depth; omega)
    omega
section
variable {K : PySem.W.Frag} {σ : L2.St} {H H' : Hp} {ta tb te tl : TE} {t u : TT} {x y z v : V} {p q : Addr}
theorem shaped_row (l : List (Option Nat)) : SeqAt.shaped (.list (l.map optD)) = true := by
  unfold SeqAt.shaped
  refine Bool.and_eq_true_iff.mpr ⟨?_, decide_eq_true ?_⟩
  · unfold PyData.canLay0
    exact can_row l
  · have := depth_row l
    unfold PyData.depth
    omega
theorem ev_neRow {l m : List (Option Nat)} (ha : Ev ta σ H (.ref p)) (hb : Ev tb σ H (.ref q)) (h1 : H p = some (.lst (l.map optV))) (h2 : H q = some (.lst (m.map optV))) : Ev (tOp (rNeD K) ta tb) σ H (.bl (!decide (l = m))) :=
  ev_op ha hb fun H1 e Q k => ⟨_, _, .lst (sq_of (e _ _ h1)) (dp_row l), .lst (sq_of (e _ _ h2)) (dp_row m), shaped_row l, shaped_row m, by
    have e2 : PyData.eqv (.list (l.map optD)) (.list (m.map optD)) = decide (l = m) := by
      unfold PyData.eqv
      exact eqv_row l m
    rw [e2]
    exact k H1 (Ex.refl H1)⟩
theorem ev_ixN {xs : List V} {i : Nat} (ha : Ev ta σ H (.ref p)) (hb : Ev tb σ H (natV i)) (h : H p = some (.lst xs)) (hi : xs[i]? = some v) : Ev (tOp (rIxL K) ta tb) σ H v := ev_op ha hb (rv_ixL (sq_of h) (atI_nat hi))
theorem ev_ixL {xs : List V} {i : Nat} (ha : Ev ta σ H (.ref p)) (hb : Ev tb σ H (natV i)) (h : SqL K H p xs) (hi : xs[i]? = some v) : Ev (tOp (rIxL K) ta tb) σ H v := ev_op ha hb (rv_ixL h (atI_nat hi))
theorem et_yes : EvT tYes σ H true := fun H1 _ _ q => q H1 (Ex.refl H1)
theorem given_all {n : Nat} {v : Nat → V} {ys : List V} (hl : ys.length = n) (h : ∀ i, i < n → ys[i]? = some (v i)) : given n (fun _ => true) v = ys := by
  unfold given
  rw [List.filter_eq_self.mpr fun _ _ => rfl]
  refine List.ext_getElem? fun i => ?_
  rw [List.getElem?_map]
  by_cases hi : i < n
  · rw [List.getElem?_range hi, h i hi]
    rfl
  · rw [List.getElem?_eq_none (by rw [List.length_range]; omega), List.getElem?_eq_none (by omega)]
    rfl
/-- [e for x in xs]: what each turn gives -/
theorem el_map {a : Addr} {xs ys : List V} {j : Nat} {vs : List Nat} (hl : ys.length = xs.length) (h : Ev tl σ H (.ref a)) (hx : H a = some (.lst xs)) (hz : xs.length ≤ 40000) (hw : ∀ x, wipe ((wipe σ vs).set j (some x)) vs = wipe σ vs)
    (he : ∀ (i : Nat) (x y : V) H1, Ex H H1 → xs[i]? = some x → ys[i]? = some y → Ev te ((wipe σ vs).set j (some x)) H1 y) : EvL (tLc (iList K tl) (gName j) tYes te vs) σ H ys := by
  have e : given xs.length (fun _ => true) (fun i => ys.getD i .non) = ys := given_all hl fun i hi => by
    rw [List.getD_eq_getElem?_getD, List.getElem?_eq_getElem (by omega)]
    rfl
  have q := el_lcL (K := K) (te := te) (j := j) (vs := vs) (fun _ => true) (fun i => ys.getD i .non) h (sq_of hx) hz hw (fun _ _ _ _ _ => et_yes) (fun i x H1 e1 hi _ => he i x _ H1 e1 hi (by
    have := (List.getElem?_eq_some_iff.mp hi).1
    rw [List.getD_eq_getElem?_getD, List.getElem?_eq_getElem (by omega)]
    rfl))
  rw [e] at q
  exact q
/-- .. over a new list -/
theorem el_mapN {xs ys : List V} {j : Nat} {vs : List Nat} (hl : ys.length = xs.length) (h : EvL tl σ H xs) (hz : xs.length ≤ 40000) (hw : ∀ x, wipe ((wipe σ vs).set j (some x)) vs = wipe σ vs)
    (he : ∀ (i : Nat) (x y : V) H1, Ex H H1 → xs[i]? = some x → ys[i]? = some y → Ev te ((wipe σ vs).set j (some x)) H1 y) : EvL (tLc (iList K tl) (gName j) tYes te vs) σ H ys := by
  have e : given xs.length (fun _ => true) (fun i => ys.getD i .non) = ys := given_all hl fun i hi => by
    rw [List.getD_eq_getElem?_getD, List.getElem?_eq_getElem (by omega)]
    rfl
  have q := el_lcNL (K := K) (te := te) (j := j) (vs := vs) (fun _ => true) (fun i => ys.getD i .non) h hz hw (fun _ _ _ _ _ => et_yes) (fun i x H1 e1 hi _ => he i x _ H1 e1 hi (by
    have := (List.getElem?_eq_some_iff.mp hi).1
    rw [List.getD_eq_getElem?_getD, List.getElem?_eq_getElem (by omega)]
    rfl))
  rw [e] at q
  exact q
/-- .. over range(n) -/
theorem el_mapR {ys : List V} {j n : Nat} {vs : List Nat} {tr : TA} (hl : ys.length = n) (h : EvA tr σ H [natV n]) (hz : n ≤ 40000) (hw : ∀ x, wipe ((wipe σ vs).set j (some x)) vs = wipe σ vs)
    (he : ∀ (i : Nat) (y : V) H1, Ex H H1 → i < n → ys[i]? = some y → Ev te ((wipe σ vs).set j (some (natV i))) H1 y) : EvL (tLc (iRng1 tr) (gName j) tYes te vs) σ H ys := by
  have e : given n (fun _ => true) (fun i => ys.getD i .non) = ys := given_all hl fun i hi => by
    rw [List.getD_eq_getElem?_getD, List.getElem?_eq_getElem (by omega)]
    rfl
  have q := el_lcR1 (te := te) (j := j) (vs := vs) (n := (n : Int)) (fun _ => true) (fun i => ys.getD i .non) h (by omega) hw (fun _ _ _ _ => et_yes) (fun i H1 e1 hi _ => he i _ H1 e1 (by omega) (by
    rw [List.getD_eq_getElem?_getD, List.getElem?_eq_getElem (by omega)]
    rfl))
  rw [Int.toNat_natCast, e] at q
  exact q
end
end PC

set_option Elab.async false
set_option linter.all false
set_option maxRecDepth 100000
set_option maxHeartbeats 2000000
namespace PC
open PySem PySem.Spec PyProof.Rows L2 Evl
section
variable {P : Program} {w : World} {K : PySem.W.Frag} {mg : Str → Option Value} {base : Heap} {A : Ad} {f : Addr} {fd : FuncData}
/-! ### plans -/
abbrev s_cost_through : Stmt := top 39
abbrev N_cost_through : List Str := ["act", "state", "costs"]
theorem sc_cost_through : FnScope N_cost_through ["act", "state", "costs"] (defScope s_cost_through) := ⟨rfl, rfl, rfl, by decide +kernel, rfl, by decide +kernel, by decide +kernel⟩
abbrev s_cost_from : Stmt := top 40
abbrev N_cost_from : List Str := ["task", "state", "costs", "ways", "act", "way"]
theorem sc_cost_from : FnScope N_cost_from ["task", "state", "costs"] (defScope s_cost_from) := ⟨rfl, rfl, rfl, by decide +kernel, rfl, by decide +kernel, by decide +kernel⟩
abbrev s_cheapest_costs : Stmt := top 41
abbrev N_cheapest_costs : List Str := ["task", "earlier", "costs", "state"]
theorem sc_cheapest_costs : FnScope N_cheapest_costs ["task"] (defScope s_cheapest_costs) := ⟨rfl, rfl, rfl, by decide +kernel, rfl, by decide +kernel, by decide +kernel⟩
abbrev s_first_step : Stmt := top 42
abbrev N_first_step : List Str := ["task", "state", "costs", "ways", "act"]
theorem sc_first_step : FnScope N_first_step ["task", "state", "costs"] (defScope s_first_step) := ⟨rfl, rfl, rfl, by decide +kernel, rfl, by decide +kernel, by decide +kernel⟩
abbrev s_first_cheapest_plan : Stmt := top 43
abbrev N_first_cheapest_plan : List Str := ["task", "costs", "plan", "state", "number"]
theorem sc_first_cheapest_plan : FnScope N_first_cheapest_plan ["task", "costs"] (defScope s_first_cheapest_plan) := ⟨rfl, rfl, rfl, by decide +kernel, rfl, by decide +kernel, by decide +kernel⟩
abbrev s_states_behind : Stmt := top 44
abbrev N_states_behind : List Str := ["task", "state", "act"]
theorem sc_states_behind : FnScope N_states_behind ["task", "state"] (defScope s_states_behind) := ⟨rfl, rfl, rfl, by decide +kernel, rfl, by decide +kernel, by decide +kernel⟩
abbrev s_states_come_to : Stmt := top 45
abbrev N_states_come_to : List Str := ["task", "found", "place", "ends", "state"]
theorem sc_states_come_to : FnScope N_states_come_to ["task"] (defScope s_states_come_to) := ⟨rfl, rfl, rfl, by decide +kernel, rfl, by decide +kernel, by decide +kernel⟩
theorem spv_may {H : Hp} {p : Addr} {a : Pn.Act} {s : Nat} (h : ActAt A H p a) : SpV (sp_may_be_done K A) [.ref p, natV s] H (.bl (a.may s)) := spV_of fun H1 e => ⟨p, a, s, rfl, h.ex e, rfl⟩
theorem spv_behind {H : Hp} {p : Addr} {a : Pn.Act} {s : Nat} (h : ActAt A H p a) : SpV (sp_behind K A) [.ref p, natV s] H (natV (a.then_ s)) := spV_of fun H1 e => ⟨p, a, s, rfl, h.ex e, rfl⟩
theorem spv_wanted {H : Hp} {p : Addr} {t : Pn.Task} {s : Nat} (h : TaskAt A H p t) : SpV (sp_as_wanted K A) [.ref p, natV s] H (.bl (t.done s)) := spV_of fun H1 e => ⟨p, t, s, rfl, h.mono e, rfl⟩
theorem spl_states {H : Hp} {p : Addr} {t : Pn.Task} (h : TaskAt A H p t) (h4 : t.facts ≤ 4) : SpL (sp_states_of K A) [.ref p] H ((List.range (2 ^ t.facts)).map natV) := spL_of fun H1 e => ⟨p, t, rfl, h.mono e, h4, rfl⟩
def rowV (n : Nat) (d : Fn) : List V := (rowOf n d).map optV
theorem rowV_get {n : Nat} {d : Fn} {i : Nat} (h : i < n) : (rowV n d)[i]? = some (optV (d i)) := by
  unfold rowV
  rw [List.getElem?_map, rowOf_get h]
  rfl
theorem rowV_len (n : Nat) (d : Fn) : (rowV n d).length = n := by
  unfold rowV
  rw [List.length_map, rowOf_len]
def sp_cost_through (_ : PySem.W.Frag) (A : Ad) : Sp := spV fun vs H z => ∃ pa a s pc n d, vs = [.ref pa, natV s, .ref pc] ∧ ActAt A H pa a ∧ H pc = some (.lst (rowV n d)) ∧ a.then_ s < n ∧ z = optV (through d s a)
theorem d_cost_through (T : Top K mg A) (F : Fun K "cost_through" "cost_through" s_cost_through f fd) (hf : mg "cost_through" = some (.ref f)) (D_behind : Def P w K mg base "behind" 1 ["act", "state"] (sp_behind K A)) (D_may_be_done : Def P w K mg base "may_be_done" 1 ["act", "state"] (sp_may_be_done K A)) : Def P w K mg base "cost_through" 2 ["act", "state", "costs"] (sp_cost_through K A) := by
  obtain ⟨f_behind, fd_behind, g_behind, k_behind, b_behind, G_behind⟩ := D_behind
  obtain ⟨f_may_be_done, fd_may_be_done, g_may_be_done, k_may_be_done, b_may_be_done, G_may_be_done⟩ := D_may_be_done
  refine ⟨f, fd, hf, F.kp, F.binds (fun _ _ _ _ _ _ us hl => match us, hl with | [_, _, _], _ => rfl), F.ok sc_cost_through (fun vs H Q E h => ?_) (fun cdv A' outer s H vs Q E hr h => ?_)⟩
  · obtain ⟨z, ⟨pa, a, s, pc, n, d, rfl, ha, hc, hs, rfl⟩, k⟩ := h
    rfl
  obtain ⟨z, ⟨pa, a, s, pc, n, d, rfl, ha, hc, hs, rfl⟩, k⟩ := h
  refine ⟨_, (pss_cons (ps_if (PW.pt (pw_or (pt_not (pt_val (pe_call G_may_be_done (hr.mono (by decide)) rfl g_may_be_done k_may_be_done b_may_be_done .nil pass0 (pa_cons (pv 0) (pa_cons (pv 1) pa_nil))))) (pw_or1 (pt_cmpR op_isN (pe_ix (ix_listK (K := K) rfl) (pv 2) (pe_call G_behind (hr.mono (by decide)) rfl g_behind k_behind b_behind .nil pass0 (pa_cons (pv 0) (pa_cons (pv 1) pa_nil))) (fun _ _ => rfl)) pe_non (nomark _))))) (pss_one (ps_ret pe_non)) pss_nil) (pss_one (ps_ret (pe_op op_add (pe_fldK (K := K) rfl (pv 0) rfl) (pe_ix (ix_listK (K := K) rfl) (pv 2) (pe_call G_behind (hr.mono (by decide)) rfl g_behind k_behind b_behind .nil pass0 (pa_cons (pv 0) (pa_cons (pv 1) pa_nil))) (fun _ _ => rfl)))))), ?_⟩
  have eb : Ev (tOp (rIxL K) (tVar 2) (tCall (sp_behind K A) [] E0 (tCons (tVar 0) (tCons (tVar 1) tNil)))) (start N_cost_through [.ref pa, natV s, .ref pc]) H (optV (d (a.then_ s))) :=
    ev_ixN (ev_var rfl) (ev_call (ea_cons (ev_var rfl) (ea_cons (ev_var rfl) ea_nil)) (spv_behind ha)) hc (rowV_get hs)
  refine q_when (b := !a.may s || decide (optV (d (a.then_ s)) = .non)) (et_or (et_not (et_B (ev_call (ea_cons (ev_var rfl) (ea_cons (ev_var rfl) ea_nil)) (spv_may ha)))) (fun _ => et_test (ev_isN eb))) (fun hb H1 e => ?_) (fun hb H1 e => ?_)
  · refine s_ret (v := optV (through d s a)) ?_ (fun H2 e2 => k.go (e.trans e2))
    refine ev_is ev_c ?_
    unfold through
    cases m : a.may s with
    | false => rfl
    | true =>
      rw [m] at hb
      have hb := of_decide_eq_true (show decide (optV (d (a.then_ s)) = .non) = true from hb)
      rw [if_pos rfl]
      cases q : d (a.then_ s) with
      | none => rfl
      | some c =>
        rw [q] at hb
        cases hb
  · obtain ⟨h1, h2⟩ := Bool.or_eq_false_iff.mp hb
    have m : a.may s = true := by simpa using h1
    refine s_ret (v := optV (through d s a)) ?_ (fun H2 e2 => k.go (e.trans e2))
    cases q : d (a.then_ s) with
    | none =>
      rw [q] at h2
      cases h2
    | some c =>
      have eb2 := eb.mono e
      rw [q] at eb2
      refine ev_is (ev_op (ev_cost T (ha.ex e) (ev_var rfl)) eb2 rv_I0) ?_
      unfold through
      rw [if_pos m, q]
      show V.int _ = V.int _
      rw [← Int.natCast_add]
/-- the acts of a task -/
theorem acts_at (T : Top K mg A) {H : Hp} {p : Addr} {t : Pn.Task} (ht : TaskAt A H p t) : ∃ (la : Addr) (as : List Addr), H la = some (.lst (as.map V.ref)) ∧ as.length = t.acts.length ∧ (∀ (ta : TE) (σ : L2.St), Ev ta σ H (.ref p) → Ev (tFld K ta "acts") σ H (.ref la)) ∧
    ∀ (i : Nat) (x : V), (as.map V.ref)[i]? = some x → ∃ (a : Addr) (act : Pn.Act), x = .ref a ∧ t.acts[i]? = some act ∧ ActAt A H a act := by
  obtain ⟨dx, la, as, h1, h2, h3, h4⟩ := ht.ex
  refine ⟨la, as, h2, h3, fun ta σ h => ev_fld h h1 T.cTask T.nActs (taskF_acts t la), fun i x hx => ?_⟩
  rw [List.getElem?_map] at hx
  cases e : as[i]? with
  | none => rw [e] at hx; cases hx
  | some a =>
    rw [e] at hx
    have hi := (List.getElem?_eq_some_iff.mp e).1
    have ha : t.acts[i]? = some t.acts[i] := List.getElem?_eq_getElem (by omega)
    obtain ⟨b, hb, h5⟩ := h4 i _ ha
    rw [e] at hb
    cases hb
    exact ⟨a, _, (Option.some.inj hx).symm, ha, h5⟩
theorem given_take {α : Type} (l : List α) (d : α) (p : α → Bool) (g : α → V) : ∀ n, n ≤ l.length → given n (fun i => p (l.getD i d)) (fun i => g (l.getD i d)) = ((l.take n).filter p).map g
  | 0, _ => by
    rw [List.take_zero]
    rfl
  | n + 1, h => by
    have e : l.take (n + 1) = l.take n ++ [l.getD n d] := by
      rw [List.take_succ, List.getD_eq_getElem?_getD, List.getElem?_eq_getElem (by omega)]
      rfl
    have ih := given_take l d p g n (by omega)
    rw [e, List.filter_append, List.map_append]
    by_cases c : p (l.getD n d) = true
    · rw [given_yes (f := fun i => p (l.getD i d)) c, ih, List.filter_cons_of_pos c]
      rfl
    · rw [given_no (f := fun i => p (l.getD i d)) (by simpa using c), ih, List.filter_cons_of_neg c]
      show _ = _ ++ []
      rw [List.append_nil]
theorem given_list {α : Type} (l : List α) (d : α) (p : α → Bool) (g : α → V) : given l.length (fun i => p (l.getD i d)) (fun i => g (l.getD i d)) = (l.filter p).map g := by
  rw [given_take l d p g _ (Nat.le_refl _), List.take_length]
def there (l : List (Option Nat)) : List Nat := l.filterMap id
theorem there_map : ∀ l : List (Option Nat), (l.filter Option.isSome).map optV = (there l).map natV
  | [] => rfl
  | none :: l => by
    rw [List.filter_cons_of_neg (by decide)]
    exact there_map l
  | some n :: l => by
    rw [List.filter_cons_of_pos (by rfl)]
    show optV (some n) :: _ = natV n :: _
    rw [there_map l]
    rfl
theorem there_min (l : List (Option Nat)) : minO ((there l).map some) = minO l := by
  refine minO_eq (fun x hx => ?_) ?_
  · obtain ⟨n, hn, rfl⟩ := List.mem_map.mp hx
    obtain ⟨y, hy, e⟩ := List.mem_filterMap.mp hn
    cases (show y = some n from e)
    exact minO_le hy
  · rcases minO_mem l with e | e
    · exact .inl e
    · cases q : minO l with
      | none => exact .inl rfl
      | some n =>
        rw [q] at e
        exact .inr (List.mem_map.mpr ⟨n, List.mem_filterMap.mpr ⟨some n, e, rfl⟩, rfl⟩)
section
variable {σ : L2.St} {H : Hp} {te : TE}
theorem ev_minD {ns : List Nat} (h : EvL te σ H (ns.map natV)) : Ev (tCKw (rMinDflt K) (tCons te tNil) (tCons (tC .non) tNil)) σ H (optV (minO (ns.map some))) := fun H1 e Q q =>
  h H1 e _ fun p H2 hp e2 h2 => ⟨p, ns.map (fun n : Nat => (n : Int)), .non, rfl, rfl, sq_of (by rw [h2, List.map_map]; rfl), fun e0 => by
    have e0 : ns = [] := List.map_eq_nil_iff.mp e0
    subst e0
    exact q H2 e2, fun m hm hle => by
    obtain ⟨n, hn, rfl⟩ := List.mem_map.mp hm
    have e3 : minO (ns.map some) = some n := minO_eq (fun x hx => by
      obtain ⟨y, hy, rfl⟩ := List.mem_map.mp hx
      rw [Ole.some]
      have := hle (y : Int) (List.mem_map.mpr ⟨y, hy, rfl⟩)
      omega) (.inr (List.mem_map.mpr ⟨n, hn, rfl⟩))
    rw [e3] at q
    exact q H2 e2⟩
/-- [x for x in xs if x is not None] -/
theorem el_there {a : Addr} {l : List (Option Nat)} {j : Nat} {vs : List Nat} {tl : TE} (h : Ev tl σ H (.ref a)) (hx : H a = some (.lst (l.map optV))) (hz : l.length ≤ 40000) (hw : ∀ x, wipe ((wipe σ vs).set j (some x)) vs = wipe σ vs) (hj : ∀ x, ((wipe σ vs).set j (some x))[j]? = some (some x)) :
    EvL (tLc (iList K tl) (gName j) (tTest (tOp (fun x y H Q => y = .non ∧ Q (.bl (!decide (x = .non))) H) (tVar j) (tC .non))) (tVar j) vs) σ H ((there l).map natV) := by
  have hl : (l.map optV).length = l.length := List.length_map _
  have key : ∀ (i : Nat) (x : V), (l.map optV)[i]? = some x → x = optV (l.getD i none) := fun i x hi => by
    have hi2 := (List.getElem?_eq_some_iff.mp hi).1
    rw [hl] at hi2
    rw [List.getElem?_map, List.getElem?_eq_getElem hi2] at hi
    rw [List.getD_eq_getElem?_getD, List.getElem?_eq_getElem hi2]
    exact (Option.some.inj hi).symm
  have q := el_lcL (K := K) (te := tVar j) (t := tTest (tOp (fun x y H Q => y = .non ∧ Q (.bl (!decide (x = .non))) H) (tVar j) (tC .non))) (j := j) (vs := vs) (fun i => (l.getD i none).isSome) (fun i => optV (l.getD i none)) h (sq_of hx) (by rw [hl]; exact hz) hw (fun i x H1 e1 hi => by
    have e := key i x hi
    refine et_is (et_test (ev_notN (ev_var (hj x)))) ?_
    rw [e]
    cases l.getD i none with
    | none => rfl
    | some n => rfl) (fun i x H1 e1 hi _ => by
    rw [← key i x hi]
    exact ev_var (hj x))
  rw [hl, given_list l none Option.isSome optV, there_map] at q
  exact q
end
def sp_cost_from (_ : PySem.W.Frag) (A : Ad) : Sp := spV fun vs H z => ∃ pt t s pc d, vs = [.ref pt, natV s, .ref pc] ∧ TaskAt A H pt t ∧ WF t ∧ s < 2 ^ t.facts ∧ H pc = some (.lst (rowV (2 ^ t.facts) d)) ∧ z = optV (stepC t d s)
theorem d_cost_from (T : Top K mg A) (F : Fun K "cost_from" "cost_from" s_cost_from f fd) (hf : mg "cost_from" = some (.ref f)) (D_cost_through : Def P w K mg base "cost_through" 2 ["act", "state", "costs"] (sp_cost_through K A)) (D_as_wanted : Def P w K mg base "as_wanted" 1 ["task", "state"] (sp_as_wanted K A)) : Def P w K mg base "cost_from" 3 ["task", "state", "costs"] (sp_cost_from K A) := by
  obtain ⟨f_cost_through, fd_cost_through, g_cost_through, k_cost_through, b_cost_through, G_cost_through⟩ := D_cost_through
  obtain ⟨f_as_wanted, fd_as_wanted, g_as_wanted, k_as_wanted, b_as_wanted, G_as_wanted⟩ := D_as_wanted
  refine ⟨f, fd, hf, F.kp, F.binds (fun _ _ _ _ _ _ us hl => match us, hl with | [_, _, _], _ => rfl), F.ok sc_cost_from (fun vs H Q E h => ?_) (fun cdv A' outer s H vs Q E hr h => ?_)⟩
  · obtain ⟨z, ⟨pt, t, s, pc, d, rfl, ht, hw, hs, hc, rfl⟩, k⟩ := h
    rfl
  obtain ⟨z, ⟨pt, t, s, pc, d, rfl, ht, hw, hs, hc, rfl⟩, k⟩ := h
  refine ⟨_, (pss_cons (ps_if (pt_val (pe_call G_as_wanted (hr.mono (by decide)) rfl g_as_wanted k_as_wanted b_as_wanted .nil pass0 (pa_cons (pv 0) (pa_cons (pv 1) pa_nil)))) (pss_one (ps_ret pe_int)) pss_nil) (pss_cons (ps_setLc (i := 3) (own := [("act", 4)]) rfl sc_cost_from.nd rfl rfl (sw_true rfl rfl rfl (by decide +kernel)) (pi_listK (K := K) rfl (pe_fldK (K := K) rfl (pv 0) rfl)) (blkOk_by (N := N_cost_from) (sc := defScope (top 40)) (by decide +kernel)) (fun _ _ _ _ _ => (pg_name (i := 4) sc_cost_from.nd rfl (by first | exact Or.inl rfl | exact Or.inr rfl))) (fun _ _ _ _ _ => pts_nil) (fun _ _ _ _ _ => (pe_call G_cost_through (hr.mono (by decide)) rfl g_cost_through k_cost_through b_cost_through .nil pass0 (pa_cons (pv 4) (pa_cons (pv 1) (pa_cons (pv 2) pa_nil)))))) (pss_one (ps_ret (pe_callBK (cr_minDflt rfl hr.units) (by rfl) T.b_min (by decide +kernel) (pa_cons (pe_lc (own := [("way", 5)]) rfl sc_cost_from.nd (pi_listK (K := K) rfl (pv 3)) (blkOk_by (N := N_cost_from) (sc := defScope (top 40)) (by decide +kernel)) (fun _ _ _ _ _ => (pg_name (i := 5) sc_cost_from.nd rfl (by first | exact Or.inl rfl | exact Or.inr rfl))) (fun _ _ _ _ _ => (pts_one (pt_cmpR op_notN (pv 5) pe_non (nomark _)))) (fun _ _ _ _ _ => (pv 5))) pa_nil) (pk_cons pe_non pk_nil)))))), ?_⟩
  refine q_when (b := t.done s) (et_B (ev_call (ea_cons (ev_var rfl) (ea_cons (ev_var rfl) ea_nil)) (spv_wanted ht))) (fun hb H1 e => ?_) (fun hb H1 e => ?_)
  · refine s_ret (v := optV (stepC t d s)) ?_ (fun H2 e2 => k.go (e.trans e2))
    rw [stepC_done hs hb]
    exact ev_c
  · obtain ⟨la, as, h2, h3, h4, h5⟩ := acts_at T (ht.mono e)
    refine q_asgL (xs := (t.acts.map (through d s)).map optV) (el_map (by simp [h3]) (h4 _ _ (ev_var rfl)) h2 (by rw [List.length_map, h3]; have := hw.n8; omega) (fun _ => rfl) (fun i x y H2 e2 hx hy => ?_)) (fun p H2 hp e2 h => ?_)
    · obtain ⟨a, act, rfl, ha, h6⟩ := h5 i x hx
      rw [List.getElem?_map, List.getElem?_map, ha] at hy
      cases (Option.some.inj hy)
      exact ev_call (ea_cons (ev_var rfl) (ea_cons (ev_var rfl) (ea_cons (ev_var rfl) ea_nil))) (spV_of fun H3 e3 => ⟨a, act, s, pc, 2 ^ t.facts, d, rfl, (h6.ex e2).ex e3, e3 _ _ (e2 _ _ (e _ _ hc)), then_lt (hw.at (List.mem_of_getElem? ha)) hs, rfl⟩)
    · refine s_ret (v := optV (stepC t d s)) ?_ (fun H3 e3 => k.go ((e.trans e2).trans e3))
      rw [stepC_open hs hb, ← there_min]
      exact ev_minD (el_there (ev_var rfl) h (by rw [List.length_map]; have := hw.n8; omega) (fun _ => rfl) (fun _ => rfl))
def sp_cheapest_costs (_ : PySem.W.Frag) (A : Ad) : Sp := spL fun vs H xs => ∃ pt t, vs = [.ref pt] ∧ TaskAt A H pt t ∧ WF t ∧ xs = rowV (2 ^ t.facts) (cst t)
theorem cr_stop {t : Pn.Task} (hw : WF t) {k : Nat} {r : List (Option Nat)} (hr : (k = 0 ∧ r = []) ∨ ∃ j, k = j + 1 ∧ r = rowOf (2 ^ t.facts) (cr t j)) (h : rowOf (2 ^ t.facts) (cr t k) = r) : rowOf (2 ^ t.facts) (cr t k) = rowOf (2 ^ t.facts) (cst t) := by
  rcases hr with ⟨rfl, rfl⟩ | ⟨j, rfl, rfl⟩
  · have := congrArg List.length h
    rw [rowOf_len, List.length_nil] at this
    have := hw.pos
    omega
  · exact cr_end hw h
theorem cr_go {t : Pn.Task} (hw : WF t) {k : Nat} {r : List (Option Nat)} (hr : (k = 0 ∧ r = []) ∨ ∃ j, k = j + 1 ∧ r = rowOf (2 ^ t.facts) (cr t j)) (h : rowOf (2 ^ t.facts) (cr t k) ≠ r) : k ≤ 2 ^ t.facts := by
  rcases hr with ⟨rfl, rfl⟩ | ⟨j, rfl, rfl⟩
  · exact Nat.zero_le _
  · apply Classical.byContradiction
    intro q
    exact h (cr_soon hw (by omega))
theorem d_cheapest_costs (T : Top K mg A) (F : Fun K "cheapest_costs" "cheapest_costs" s_cheapest_costs f fd) (hf : mg "cheapest_costs" = some (.ref f)) (D_states_of : Def P w K mg base "states_of" 1 ["task"] (sp_states_of K A)) (D_cost_from : Def P w K mg base "cost_from" 3 ["task", "state", "costs"] (sp_cost_from K A)) : Def P w K mg base "cheapest_costs" 4 ["task"] (sp_cheapest_costs K A) := by
  obtain ⟨f_states_of, fd_states_of, g_states_of, k_states_of, b_states_of, G_states_of⟩ := D_states_of
  obtain ⟨f_cost_from, fd_cost_from, g_cost_from, k_cost_from, b_cost_from, G_cost_from⟩ := D_cost_from
  refine ⟨f, fd, hf, F.kp, F.binds (fun _ _ _ _ _ _ us hl => match us, hl with | [_], _ => rfl), F.ok sc_cheapest_costs (fun vs H Q E h => ?_) (fun cdv A' outer s H vs Q E hr h => ?_)⟩
  · obtain ⟨z, ⟨pt, t, rfl, ht, hw, rfl⟩, k⟩ := h
    rfl
  obtain ⟨z, ⟨pt, t, rfl, ht, hw, rfl⟩, k⟩ := h
  refine ⟨_, (pss_cons (ps_set (i := 1) sc_cheapest_costs.nd rfl (by first | exact Or.inl rfl | exact Or.inr rfl) (pe_lst pa_nil)) (pss_cons (ps_setLc (i := 2) (own := [("state", 3)]) rfl sc_cheapest_costs.nd rfl rfl (sw_true rfl rfl rfl (by decide +kernel)) (pi_listK (K := K) rfl (pe_call G_states_of (hr.mono (by decide)) rfl g_states_of k_states_of b_states_of .nil pass0 (pa_cons (pv 0) pa_nil))) (blkOk_by (N := N_cheapest_costs) (sc := defScope (top 41)) (by decide +kernel)) (fun _ _ _ _ _ => (pg_name (i := 3) sc_cheapest_costs.nd rfl (by first | exact Or.inl rfl | exact Or.inr rfl))) (fun _ _ _ _ _ => pts_nil) (fun _ _ _ _ _ => pe_non)) (pss_cons (ps_while PassesOwn.never (pt_cmpR (op_neD hr.units) (pv 2) (pv 1) (nomark _)) (pss_cons (ps_set (i := 1) sc_cheapest_costs.nd rfl (by first | exact Or.inl rfl | exact Or.inr rfl) (pv 2)) (pss_one (ps_setLc (i := 2) (own := [("state", 3)]) rfl sc_cheapest_costs.nd rfl rfl (sw_true rfl rfl rfl (by decide +kernel)) (pi_listK (K := K) rfl (pe_call G_states_of (hr.mono (by decide)) rfl g_states_of k_states_of b_states_of .nil pass0 (pa_cons (pv 0) pa_nil))) (blkOk_by (N := N_cheapest_costs) (sc := defScope (top 41)) (by decide +kernel)) (fun _ _ _ _ _ => (pg_name (i := 3) sc_cheapest_costs.nd rfl (by first | exact Or.inl rfl | exact Or.inr rfl))) (fun _ _ _ _ _ => pts_nil) (fun _ _ _ _ _ => (pe_call G_cost_from (hr.mono (by decide)) rfl g_cost_from k_cost_from b_cost_from .nil pass0 (pa_cons (pv 0) (pa_cons (pv 3) (pa_cons (pv 1) pa_nil))))))))) (pss_one (ps_ret (pv 2)))))), ?_⟩
  have hp16 := hw.lt16
  refine q_asgL (xs := []) (el_lst ea_nil (by decide)) (fun pE H1 hpE e1 hE => ?_)
  refine q_asgL (xs := rowV (2 ^ t.facts) (cr t 0)) (el_mapN (xs := (List.range (2 ^ t.facts)).map natV) (by rw [rowV_len, List.length_map, List.length_range]) (el_call (ea_cons (ev_var rfl) ea_nil) (spl_states (ht.mono e1) hw.f4)) (by rw [List.length_map, List.length_range]; omega) (fun _ => rfl) (fun i x y H2 e2 hx hy => ?_)) (fun pC H2 hpC e2 hC => ?_)
  · have hi := (List.getElem?_eq_some_iff.mp hy).1
    rw [rowV_len] at hi
    rw [rowV_get hi] at hy
    cases (Option.some.inj hy)
    exact ev_c
  refine q_while (fun m σ' H' => ∃ j pE pC r, m = 2 ^ t.facts + 1 - j ∧ σ' = [some (.ref pt), some (.ref pE), some (.ref pC), none] ∧ Ex H H' ∧ H pC = none ∧ H' pC = some (.lst (rowV (2 ^ t.facts) (cr t j))) ∧ H' pE = some (.lst (r.map optV)) ∧ ((j = 0 ∧ r = []) ∨ ∃ i, j = i + 1 ∧ r = rowOf (2 ^ t.facts) (cr t i)))
    (2 ^ t.facts + 1) ⟨0, pE, pC, [], rfl, rfl, e1.trans e2, fresh_back e1 hpC, hC, e2 _ _ hE, .inl ⟨rfl, rfl⟩⟩ (fun m σ' H' ⟨j, pE, pC, r, hm, hσ, e, hn, hC, hE, hr⟩ => ?_)
  subst hm hσ
  refine ⟨!decide (rowOf (2 ^ t.facts) (cr t j) = r), et_test (ev_neRow (ev_var rfl) (ev_var rfl) hC hE), fun hb H3 e3 => ?_, fun hb H3 e3 => ?_⟩
  · have hne : rowOf (2 ^ t.facts) (cr t j) ≠ r := by simpa using hb
    have hj := cr_go hw hr hne
    refine ⟨fun σ2 H2 => ∃ pC', σ2 = [some (.ref pt), some (.ref pC), some (.ref pC'), none] ∧ Ex H H2 ∧ H pC' = none ∧ H2 pC' = some (.lst (rowV (2 ^ t.facts) (cr t (j + 1)))) ∧ H2 pC = some (.lst (rowV (2 ^ t.facts) (cr t j))), fun σ2 H2 ⟨pC', h1, h2, h3, h4, h5⟩ => ⟨2 ^ t.facts + 1 - (j + 1), by omega, j + 1, pC, pC', rowOf (2 ^ t.facts) (cr t j), rfl, h1, h2, h3, h4, h5, .inr ⟨j, rfl, rfl⟩⟩, ?_⟩
    refine q_asg (ev_var rfl) (fun H4 e4 => ?_)
    refine s_asgL (xs := rowV (2 ^ t.facts) (cr t (j + 1))) (el_mapN (xs := (List.range (2 ^ t.facts)).map natV) (by rw [rowV_len, List.length_map, List.length_range]) (el_call (ea_cons (ev_var rfl) ea_nil) (spl_states (ht.mono ((e.trans e3).trans e4)) hw.f4)) (by rw [List.length_map, List.length_range]; omega) (fun _ => rfl) (fun i x y H5 e5 hx hy => ?_)) (fun pC' H5 hp5 e5 h5 => ?_)
    · have hi := (List.getElem?_eq_some_iff.mp hy).1
      rw [rowV_len] at hi
      rw [rowV_get hi] at hy
      rw [List.getElem?_map, List.getElem?_range hi] at hx
      cases (Option.some.inj hy)
      cases (Option.some.inj hx)
      exact ev_call (ea_cons (ev_var rfl) (ea_cons (ev_var rfl) (ea_cons (ev_var rfl) ea_nil))) (spV_of fun H6 e6 => ⟨pt, t, i, pC, cr t j, rfl, ht.mono ((((e.trans e3).trans e4).trans e5).trans e6), hw, hi, e6 _ _ (e5 _ _ (e4 _ _ (e3 _ _ hC))), rfl⟩)
    · exact ⟨pC', rfl, ((e.trans e3).trans e4).trans e5, fresh_back ((e.trans e3).trans e4) hp5, h5, e5 _ _ (e4 _ _ (e3 _ _ hC))⟩
  · have he : rowOf (2 ^ t.facts) (cr t j) = r := by simpa using hb
    have hs := cr_stop hw hr he
    refine s_ret (ev_var rfl) (fun H4 e4 => k pC H4 hn ((e.trans e3).trans e4) ?_)
    have := e4 _ _ (e3 _ _ hC)
    unfold rowV at this ⊢
    rw [hs] at this
    exact this
end
end PC

set_option Elab.async false
set_option linter.all false
set_option maxRecDepth 100000
set_option maxHeartbeats 2000000
namespace PC
open PySem PySem.Spec PyProof.Rows L2 Evl
section
variable {P : Program} {w : World} {K : PySem.W.Frag} {mg : Str → Option Value} {base : Heap} {A : Ad} {f : Addr} {fd : FuncData}
/-! ### the first of the cheapest plans -/
theorem eqV_opt (a b : Option Nat) : eqV (optV a) (optV b) = decide (a = b) := by
  cases a with
  | none =>
    cases b with
    | none => rfl
    | some y => rfl
  | some x =>
    cases b with
    | none => rfl
    | some y =>
      show ((x : Int) == (y : Int)) = decide (some x = some y)
      rw [Bool.eq_iff_iff, beq_iff_eq, decide_eq_true_eq]
      constructor
      · intro h
        congr 1
        omega
      · intro h
        injection h with h
        rw [h]
theorem flat_opt (a : Option Nat) : flatV (optV a) = true := by cases a <;> rfl
theorem flat_row (l : List (Option Nat)) : (l.map optV).all flatV = true := List.all_eq_true.mpr fun x hx => by
  obtain ⟨a, _, rfl⟩ := List.mem_map.mp hx
  exact flat_opt a
/-- xs.index(y) of a row -/
theorem ev_index {σ : L2.St} {H : Hp} {ta tb : TE} {p : Addr} {l : List (Option Nat)} {y : Option Nat} {j : Nat} (ha : Ev ta σ H (.ref p)) (hb : Ev tb σ H (optV y)) (h : H p = some (.lst (l.map optV))) (hj : l[j]? = some y) (hf : ∀ m z, m < j → l[m]? = some z → z ≠ y) :
    Ev (tBM K "list" (rIndex K) ta (tCons tb tNil)) σ H (natV j) := fun H1 e Q q => ha H1 e _ fun H2 e2 => ⟨.inl ⟨rfl, _, sq_of (e2 _ _ (e _ _ h))⟩, hb H2 (e.trans e2) _ fun H3 e3 =>
  ⟨p, l.map optV, optV y, j, optV y, rfl, rfl, sq_of (e3 _ _ (e2 _ _ (e _ _ h))), flat_opt y, flat_row l, by rw [List.getElem?_map, hj]; rfl, by rw [eqV_opt]; exact decide_eq_true rfl, fun m z hm hz => by
    rw [List.getElem?_map] at hz
    cases q : l[m]? with
    | none => rw [q] at hz; cases hz
    | some u =>
      rw [q] at hz
      cases (Option.some.inj hz)
      rw [eqV_opt]
      exact decide_eq_false (hf m u hm q), q H3 (e2.trans e3)⟩⟩
theorem act_ix {H : Hp} {t : Pn.Task} {as : List Addr} (h3 : as.length = t.acts.length) (h5 : ∀ (i : Nat) (x : V), (as.map V.ref)[i]? = some x → ∃ (a : Addr) (act : Pn.Act), x = .ref a ∧ t.acts[i]? = some act ∧ ActAt A H a act) {j : Nat} (hj : j < t.acts.length) :
    ∃ a : Addr, (as.map V.ref)[j]? = some (.ref a) ∧ ActAt A H a (t.act j) := by
  have ha : (as.map V.ref)[j]? = some (.ref as[j]) := by
    rw [List.getElem?_map, List.getElem?_eq_getElem (by omega)]
    rfl
  obtain ⟨a, act, q1, q2, q3⟩ := h5 j _ ha
  rw [List.getElem?_eq_getElem hj] at q2
  rw [act_get hj, Option.some.inj q2]
  injection q1 with q1
  exact ⟨as[j], ha, by rw [q1]; exact q3⟩
def sp_first_step (_ : PySem.W.Frag) (A : Ad) : Sp := spV fun vs H z => ∃ pt t s pc c k, vs = [.ref pt, natV s, .ref pc] ∧ TaskAt A H pt t ∧ WF t ∧ s < 2 ^ t.facts ∧ H pc = some (.lst (rowV (2 ^ t.facts) (cst t))) ∧ cst t s = some c ∧ Step1 t s k ∧ z = natV k
theorem d_first_step (T : Top K mg A) (F : Fun K "first_step" "first_step" s_first_step f fd) (hf : mg "first_step" = some (.ref f)) (D_cost_through : Def P w K mg base "cost_through" 2 ["act", "state", "costs"] (sp_cost_through K A)) : Def P w K mg base "first_step" 3 ["task", "state", "costs"] (sp_first_step K A) := by
  obtain ⟨f_cost_through, fd_cost_through, g_cost_through, k_cost_through, b_cost_through, G_cost_through⟩ := D_cost_through
  refine ⟨f, fd, hf, F.kp, F.binds (fun _ _ _ _ _ _ us hl => match us, hl with | [_, _, _], _ => rfl), F.ok sc_first_step (fun vs H Q E h => ?_) (fun cdv A' outer s H vs Q E hr h => ?_)⟩
  · obtain ⟨z, ⟨pt, t, s, pc, c, j, rfl, ht, hw, hs, hc, hcs, hj, rfl⟩, k⟩ := h
    rfl
  obtain ⟨z, ⟨pt, t, s, pc, c, j, rfl, ht, hw, hs, hc, hcs, hj, rfl⟩, k⟩ := h
  refine ⟨_, (pss_cons (ps_setLc (i := 3) (own := [("act", 4)]) rfl sc_first_step.nd rfl rfl (sw_true rfl rfl rfl (by decide +kernel)) (pi_listK (K := K) rfl (pe_fldK (K := K) rfl (pv 0) rfl)) (blkOk_by (N := N_first_step) (sc := defScope (top 42)) (by decide +kernel)) (fun _ _ _ _ _ => (pg_name (i := 4) sc_first_step.nd rfl (by first | exact Or.inl rfl | exact Or.inr rfl))) (fun _ _ _ _ _ => pts_nil) (fun _ _ _ _ _ => (pe_call G_cost_through (hr.mono (by decide)) rfl g_cost_through k_cost_through b_cost_through .nil pass0 (pa_cons (pv 4) (pa_cons (pv 1) (pa_cons (pv 2) pa_nil)))))) (pss_one (ps_ret (pe_bm PySem.F.plainAttrs_list PySem.F.slot_list_index PySem.F.type_list_index mt_index (pv 3) (pa_cons (pe_ix (ix_listK (K := K) rfl) (pv 2) (pv 1) (fun _ _ => rfl)) pa_nil))))), ?_⟩
  obtain ⟨la, as, h2, h3, h4, h5⟩ := acts_at T ht
  refine q_asgL (xs := (t.acts.map (through (cst t) s)).map optV) (el_map (by simp [h3]) (h4 _ _ (ev_var rfl)) h2 (by rw [List.length_map, h3]; have := hw.n8; omega) (fun _ => rfl) (fun i x y H2 e2 hx hy => ?_)) (fun p H2 hp e2 h => ?_)
  · obtain ⟨a, act, rfl, ha, h6⟩ := h5 i x hx
    rw [List.getElem?_map, List.getElem?_map, ha] at hy
    cases (Option.some.inj hy)
    exact ev_call (ea_cons (ev_var rfl) (ea_cons (ev_var rfl) (ea_cons (ev_var rfl) ea_nil))) (spV_of fun H3 e3 => ⟨a, act, s, pc, 2 ^ t.facts, cst t, rfl, (h6.ex e2).ex e3, e3 _ _ (e2 _ _ hc), then_lt (hw.at (List.mem_of_getElem? ha)) hs, rfl⟩)
  · refine s_ret (v := natV j) ?_ (fun H3 e3 => k.go (e2.trans e3))
    have lt := hj.lt
    have ew : ∀ m, m < t.acts.length → (t.acts.map (through (cst t) s))[m]? = some (through (cst t) s (t.act m)) := fun m hm => by
      rw [List.getElem?_map, List.getElem?_eq_getElem hm, act_get hm]
      rfl
    refine ev_index (y := cst t s) (ev_var rfl) (ev_ixN (i := s) (ev_var rfl) (ev_var rfl) (e2 _ _ hc) (rowV_get hs)) h ?_ (fun m z hm hz => ?_)
    · rw [ew j lt, hcs, (goesBy_iff hw lt hcs).mp hj.by_]
    · rw [ew m (by omega)] at hz
      cases (Option.some.inj hz)
      intro q
      rw [hcs] at q
      have := (goesBy_iff hw (by omega) hcs).mpr q
      rw [hj.first m hm] at this
      cases this
def sp_first_cheapest_plan (_ : PySem.W.Frag) (A : Ad) : Sp := spL fun vs H xs => ∃ pt t pc c, vs = [.ref pt, .ref pc] ∧ TaskAt A H pt t ∧ WF t ∧ H pc = some (.lst (rowV (2 ^ t.facts) (cst t))) ∧ cst t t.start = some c ∧ xs = (plan t t.start).map natV
theorem plan_len {t : Pn.Task} (w : WF t) : ∀ c s, s < 2 ^ t.facts → cst t s = some c → (plan t s).length ≤ c := by
  intro c
  induction c using Nat.strongRecOn with
  | _ c ih =>
    intro s hs hc
    by_cases g : t.done s = true
    · rw [plan_done g]
      exact Nat.zero_le _
    · have g : t.done s = false := by simpa using g
      obtain ⟨k, hk⟩ := step_ex w hs hc g
      obtain ⟨h3, c', h4, h6, h5⟩ := hk.next w hs hc
      rw [plan_step w hs hc g hk, List.length_cons]
      have := ih c' h5 _ h3 h4
      omega
theorem best_len {t : Pn.Task} {d : Array (Option Nat)} : ∀ n s, (t.best d n s).length ≤ n
  | 0, _ => Nat.le_refl _
  | n + 1, s => by
    unfold Pn.Task.best
    split
    · exact Nat.zero_le _
    · split
      · rw [List.length_cons]
        have := best_len (t := t) (d := d) n
        exact Nat.succ_le_succ (this _)
      · exact Nat.zero_le _
theorem d_first_cheapest_plan (T : Top K mg A) (F : Fun K "first_cheapest_plan" "first_cheapest_plan" s_first_cheapest_plan f fd) (hf : mg "first_cheapest_plan" = some (.ref f)) (D_as_wanted : Def P w K mg base "as_wanted" 1 ["task", "state"] (sp_as_wanted K A)) (D_behind : Def P w K mg base "behind" 1 ["act", "state"] (sp_behind K A)) (D_first_step : Def P w K mg base "first_step" 3 ["task", "state", "costs"] (sp_first_step K A)) : Def P w K mg base "first_cheapest_plan" 4 ["task", "costs"] (sp_first_cheapest_plan K A) := by
  obtain ⟨f_as_wanted, fd_as_wanted, g_as_wanted, k_as_wanted, b_as_wanted, G_as_wanted⟩ := D_as_wanted
  obtain ⟨f_behind, fd_behind, g_behind, k_behind, b_behind, G_behind⟩ := D_behind
  obtain ⟨f_first_step, fd_first_step, g_first_step, k_first_step, b_first_step, G_first_step⟩ := D_first_step
  refine ⟨f, fd, hf, F.kp, F.binds (fun _ _ _ _ _ _ us hl => match us, hl with | [_, _], _ => rfl), F.ok sc_first_cheapest_plan (fun vs H Q E h => ?_) (fun cdv A' outer s H vs Q E hr h => ?_)⟩
  · obtain ⟨z, ⟨pt, t, pc, c, rfl, ht, hw, hc, hcs, rfl⟩, k⟩ := h
    rfl
  obtain ⟨z, ⟨pt, t, pc, c, rfl, ht, hw, hc, hcs, rfl⟩, k⟩ := h
  refine ⟨_, (pss_cons (ps_set (i := 2) sc_first_cheapest_plan.nd rfl (by first | exact Or.inl rfl | exact Or.inr rfl) (pe_lst pa_nil)) (pss_cons (ps_set (i := 3) sc_first_cheapest_plan.nd rfl (by first | exact Or.inl rfl | exact Or.inr rfl) (pe_fldK (K := K) rfl (pv 0) rfl)) (pss_cons (ps_while PassesOwn.never (pt_not (pt_val (pe_call G_as_wanted (hr.mono (by decide)) rfl g_as_wanted k_as_wanted b_as_wanted .nil pass0 (pa_cons (pv 0) (pa_cons (pv 3) pa_nil))))) (pss_cons (ps_set (i := 4) sc_first_cheapest_plan.nd rfl (by first | exact Or.inl rfl | exact Or.inr rfl) (pe_call G_first_step (hr.mono (by decide)) rfl g_first_step k_first_step b_first_step .nil pass0 (pa_cons (pv 0) (pa_cons (pv 3) (pa_cons (pv 1) pa_nil))))) (pss_cons (ps_expr (pe_bm PySem.F.plainAttrs_list PySem.F.slot_list_append PySem.F.type_list_append mt_append (pv 2) (pa_cons (pv 4) pa_nil))) (pss_one (ps_set (i := 3) sc_first_cheapest_plan.nd rfl (by first | exact Or.inl rfl | exact Or.inr rfl) (pe_call G_behind (hr.mono (by decide)) rfl g_behind k_behind b_behind .nil pass0 (pa_cons (pe_ix (ix_listK (K := K) rfl) (pe_fldK (K := K) rfl (pv 0) rfl) (pv 4) (fun _ _ => rfl)) (pa_cons (pv 3) pa_nil)))))))) (pss_one (ps_ret (pv 2)))))), ?_⟩
  have hp16 := hw.lt16
  refine q_asgL (xs := []) (el_lst ea_nil (by decide)) (fun pl H1 hpl e1 hl => ?_)
  refine q_asg (v := natV t.start) (ev_so T (ht.mono e1) (ev_var rfl)) (fun H2 e2 => ?_)
  refine q_while (fun m σ' H' => ∃ (s : Nat) (pre : List Nat) (o : Option V), σ' = [some (.ref pt), some (.ref pc), some (.ref pl), some (natV s), o] ∧ Ex H H' ∧ H' pl = some (.lst (pre.map natV)) ∧ s < 2 ^ t.facts ∧ cst t s = some m ∧ pre ++ plan t s = plan t t.start)
    c ⟨t.start, [], none, rfl, e1.trans e2, e2 _ _ hl, hw.st, hcs, rfl⟩ (fun m σ' H' ⟨s, pre, o, hσ, e, hl, hs, hc', hpre⟩ => ?_)
  subst hσ
  have hlen : pre.length ≤ 16 := by
    have := congrArg List.length hpre
    rw [List.length_append] at this
    have h2 := best_len (t := t) (d := t.costs) (2 ^ t.facts) t.start
    unfold plan at this
    omega
  refine ⟨!t.done s, et_not (et_B (ev_call (ea_cons (ev_var rfl) (ea_cons (ev_var rfl) ea_nil)) (spv_wanted (ht.mono e)))), fun hb H3 e3 => ?_, fun hb H3 e3 => ?_⟩
  · have g : t.done s = false := by simpa using hb
    obtain ⟨j, hj⟩ := step_ex hw hs hc' g
    obtain ⟨n1, c', n2, n3, n4⟩ := hj.next hw hs hc'
    refine ⟨fun σ2 H2 => σ2 = [some (.ref pt), some (.ref pc), some (.ref pl), some (natV ((t.act j).then_ s)), some (natV j)] ∧ Ex H H2 ∧ H2 pl = some (.lst ((pre ++ [j]).map natV)), fun σ2 H2 ⟨h1, h2, h3⟩ => ⟨c', n4, _, pre ++ [j], some (natV j), h1, h2, h3, n1, n2, ?_⟩, ?_⟩
    · rw [List.append_assoc, ← hpre, plan_step hw hs hc' g hj]
      rfl
    refine q_asg (v := natV j) (ev_call (ea_cons (ev_var rfl) (ea_cons (ev_var rfl) (ea_cons (ev_var rfl) ea_nil))) (spV_of fun H4 e4 => ⟨pt, t, s, pc, m, j, rfl, ht.mono ((e.trans e3).trans e4), hw, hs, e4 _ _ (e3 _ _ (e _ _ hc)), hc', hj, rfl⟩)) (fun H4 e4 => ?_)
    refine q_app (xs := pre.map natV) (e4 _ _ (e3 _ _ hl)) (ev_var rfl) (ev_var rfl) (by rw [List.length_map]; omega) (fun H5 e5 => ?_)
    have eH : Ex H (upd H5 pl (.lst (pre.map natV ++ [natV j]))) := Ex.mut (((e.trans e3).trans e4).trans e5) hpl
    obtain ⟨la, as, h2, h3, h4, h5⟩ := acts_at T (ht.mono eH)
    obtain ⟨a, ha, q3⟩ := act_ix h3 h5 hj.lt
    refine s_asg (v := natV ((t.act j).then_ s)) (ev_call (ea_cons (ev_ixN (i := j) (h4 _ _ (ev_var rfl)) (ev_var rfl) h2 ha) (ea_cons (ev_var rfl) ea_nil)) (spv_behind q3)) (fun H6 e6 => ⟨rfl, eH.trans e6, ?_⟩)
    rw [List.map_append]
    exact e6 _ _ upd_same
  · have g : t.done s = true := by simpa using hb
    rw [plan_done g, List.append_nil] at hpre
    refine s_ret (ev_var rfl) (fun H4 e4 => k pl H4 hpl ((e.trans e3).trans e4) ?_)
    rw [← hpre]
    exact e4 _ _ (e3 _ _ hl)
/-! ### states that can be come to -/
def behinds (t : Pn.Task) (s : Nat) : List Nat := (t.acts.filter fun a => a.may s).map fun a => a.then_ s
def sp_states_behind (_ : PySem.W.Frag) (A : Ad) : Sp := spL fun vs H xs => ∃ pt t s, vs = [.ref pt, natV s] ∧ TaskAt A H pt t ∧ WF t ∧ xs = (behinds t s).map natV
theorem behinds_given (t : Pn.Task) (s : Nat) : given t.acts.length (fun i => (t.act i).may s) (fun i => natV ((t.act i).then_ s)) = (behinds t s).map natV := by
  have := given_list t.acts ⟨0, 0, 0, 0, 1⟩ (fun a => a.may s) (fun a => natV (a.then_ s))
  unfold behinds
  rw [List.map_map]
  exact this
theorem d_states_behind (T : Top K mg A) (F : Fun K "states_behind" "states_behind" s_states_behind f fd) (hf : mg "states_behind" = some (.ref f)) (D_may_be_done : Def P w K mg base "may_be_done" 1 ["act", "state"] (sp_may_be_done K A)) (D_behind : Def P w K mg base "behind" 1 ["act", "state"] (sp_behind K A)) : Def P w K mg base "states_behind" 2 ["task", "state"] (sp_states_behind K A) := by
  obtain ⟨f_may_be_done, fd_may_be_done, g_may_be_done, k_may_be_done, b_may_be_done, G_may_be_done⟩ := D_may_be_done
  obtain ⟨f_behind, fd_behind, g_behind, k_behind, b_behind, G_behind⟩ := D_behind
  refine ⟨f, fd, hf, F.kp, F.binds (fun _ _ _ _ _ _ us hl => match us, hl with | [_, _], _ => rfl), F.ok sc_states_behind (fun vs H Q E h => ?_) (fun cdv A' outer s H vs Q E hr h => ?_)⟩
  · obtain ⟨z, ⟨pt, t, s, rfl, ht, hw, rfl⟩, k⟩ := h
    rfl
  obtain ⟨z, ⟨pt, t, s, rfl, ht, hw, rfl⟩, k⟩ := h
  refine ⟨_, (pss_one (ps_ret (pe_lc (own := [("act", 2)]) rfl sc_states_behind.nd (pi_listK (K := K) rfl (pe_fldK (K := K) rfl (pv 0) rfl)) (blkOk_by (N := N_states_behind) (sc := defScope (top 44)) (by decide +kernel)) (fun _ _ _ _ _ => (pg_name (i := 2) sc_states_behind.nd rfl (by first | exact Or.inl rfl | exact Or.inr rfl))) (fun _ _ _ _ _ => (pts_one (pt_val (pe_call G_may_be_done (hr.mono (by decide)) rfl g_may_be_done k_may_be_done b_may_be_done .nil pass0 (pa_cons (pv 2) (pa_cons (pv 1) pa_nil)))))) (fun _ _ _ _ _ => (pe_call G_behind (hr.mono (by decide)) rfl g_behind k_behind b_behind .nil pass0 (pa_cons (pv 2) (pa_cons (pv 1) pa_nil))))))), ?_⟩
  obtain ⟨la, as, h2, h3, h4, h5⟩ := acts_at T ht
  have hl : (as.map V.ref).length = t.acts.length := by rw [List.length_map, h3]
  have key : ∀ (i : Nat) (x : V), (as.map V.ref)[i]? = some x → ∃ a, x = .ref a ∧ ActAt A H a (t.act i) := fun i x hx => by
    obtain ⟨a, act, q1, q2, q3⟩ := h5 i x hx
    have hi := (List.getElem?_eq_some_iff.mp q2).1
    rw [List.getElem?_eq_getElem hi] at q2
    rw [act_get hi, Option.some.inj q2]
    exact ⟨a, q1, q3⟩
  refine s_retL (xs := (behinds t s).map natV) ?_ (fun p H1 hp e h => k p H1 hp e h)
  rw [← behinds_given, ← hl]
  refine el_lcL _ _ (h4 _ _ (ev_var rfl)) (sq_of h2) (by rw [hl]; have := hw.n8; omega) (fun _ => rfl) (fun i x H1 e1 hi => ?_) (fun i x H1 e1 hi _ => ?_)
  · obtain ⟨a, rfl, ha⟩ := key i x hi
    exact et_B (ev_call (ea_cons (ev_var rfl) (ea_cons (ev_var rfl) ea_nil)) (spv_may (ha.ex e1)))
  · obtain ⟨a, rfl, ha⟩ := key i x hi
    exact ev_call (ea_cons (ev_var rfl) (ea_cons (ev_var rfl) ea_nil)) (spv_behind (ha.ex e1))
/-- x not in xs, of numbers -/
theorem inV_nat (n : Nat) : ∀ l : List Nat, inV (natV n) (l.map natV) = l.contains n
  | [] => rfl
  | a :: l => by
    show (eqV (natV a) (natV n) || inV (natV n) (l.map natV)) = (a :: l).contains n
    rw [inV_nat n l, List.contains_cons]
    congr 1
    show ((a : Int) == (n : Int)) = (n == a)
    rw [Bool.eq_iff_iff, beq_iff_eq, beq_iff_eq]
    omega
theorem flat_nats (l : List Nat) : (l.map natV).all flatV = true := List.all_eq_true.mpr fun x hx => by
  obtain ⟨a, _, rfl⟩ := List.mem_map.mp hx
  rfl
def sp_states_come_to (_ : PySem.W.Frag) (A : Ad) : Sp := spL fun vs H xs => ∃ pt t, vs = [.ref pt] ∧ TaskAt A H pt t ∧ WF t ∧ xs = (t.reach t.start).map natV
/-- what was found so far, how many of them were looked at -/
structure Found (t : Pn.Task) (l : List Nat) (n : Nat) : Prop where
  nd : l.Nodup
  st : t.start ∈ l
  cm : ∀ x ∈ l, Come t x
  le : n ≤ l.length
  cl : ∀ i u, i < n → l[i]? = some u → ∀ x ∈ behinds t u, x ∈ l
theorem Found.len {t : Pn.Task} (w : WF t) {l : List Nat} {n : Nat} (h : Found t l n) : l.length ≤ 16 := Nat.le_trans (nodup_len _ l h.nd fun x hx => (h.cm x hx).lt w) w.lt16
theorem behinds_mem {t : Pn.Task} {s x : Nat} : x ∈ behinds t s ↔ ∃ a ∈ t.acts, a.may s = true ∧ a.then_ s = x := by
  unfold behinds
  rw [List.mem_map]
  constructor
  · rintro ⟨a, ha, e⟩
    exact ⟨a, (List.mem_filter.mp ha).1, (List.mem_filter.mp ha).2, e⟩
  · rintro ⟨a, h1, h2, e⟩
    exact ⟨a, List.mem_filter.mpr ⟨h1, h2⟩, e⟩
theorem Found.all {t : Pn.Task} {l : List Nat} (h : Found t l l.length) (x : Nat) : x ∈ l ↔ Come t x := by
  refine ⟨h.cm x, fun c => ?_⟩
  induction c with
  | here => exact h.st
  | by_ _ ha m ih =>
    obtain ⟨i, hi, e⟩ := List.getElem_of_mem ih
    exact h.cl i _ hi (by rw [List.getElem?_eq_getElem hi, e]) _ (behinds_mem.mpr ⟨_, ha, m, rfl⟩)
/-- one more state put behind, if it is new -/
def addNew (l : List Nat) (x : Nat) : List Nat := if l.contains x = true then l else l ++ [x]
structure Adds (t : Pn.Task) (l0 : List Nat) (u : Nat) (i : Nat) (l : List Nat) : Prop where
  nd : l.Nodup
  pre : ∃ r, l = l0 ++ r
  cm : ∀ x ∈ l, Come t x
  got : ∀ x ∈ (behinds t u).take i, x ∈ l
theorem Adds.next {t : Pn.Task} {l0 l : List Nat} {u i x : Nat} (h : Adds t l0 u i l) (hx : (behinds t u)[i]? = some x) (hc : Come t x) : Adds t l0 u (i + 1) (addNew l x) := by
  obtain ⟨r, hr⟩ := h.pre
  have ht : (behinds t u).take (i + 1) = (behinds t u).take i ++ [x] := by
    rw [List.take_succ, hx]
    rfl
  unfold addNew
  by_cases c : l.contains x = true
  · rw [if_pos c]
    refine ⟨h.nd, ⟨r, hr⟩, h.cm, fun y hy => ?_⟩
    rw [ht] at hy
    rcases List.mem_append.mp hy with hy | hy
    · exact h.got y hy
    · rw [List.mem_singleton.mp hy]
      exact List.contains_iff_mem.mp c
  · rw [if_neg c]
    have hn : x ∉ l := fun q => c (List.contains_iff_mem.mpr q)
    refine ⟨?_, ⟨r ++ [x], by rw [hr, List.append_assoc]⟩, fun y hy => ?_, fun y hy => ?_⟩
    · rw [List.nodup_append]
      refine ⟨h.nd, List.nodup_cons.mpr ⟨List.not_mem_nil, List.nodup_nil⟩, fun a ha b hb e => ?_⟩
      rw [List.mem_singleton.mp hb] at e
      exact hn (e ▸ ha)
    · rcases List.mem_append.mp hy with hy | hy
      · exact h.cm y hy
      · rw [List.mem_singleton.mp hy]; exact hc
    · rw [ht] at hy
      rcases List.mem_append.mp hy with hy | hy
      · exact List.mem_append_left _ (h.got y hy)
      · exact List.mem_append_right _ hy
theorem d_states_come_to (T : Top K mg A) (F : Fun K "states_come_to" "states_come_to" s_states_come_to f fd) (hf : mg "states_come_to" = some (.ref f)) (D_states_behind : Def P w K mg base "states_behind" 2 ["task", "state"] (sp_states_behind K A)) : Def P w K mg base "states_come_to" 3 ["task"] (sp_states_come_to K A) := by
  obtain ⟨f_states_behind, fd_states_behind, g_states_behind, k_states_behind, b_states_behind, G_states_behind⟩ := D_states_behind
  refine ⟨f, fd, hf, F.kp, F.binds (fun _ _ _ _ _ _ us hl => match us, hl with | [_], _ => rfl), F.ok sc_states_come_to (fun vs H Q E h => ?_) (fun cdv A' outer s H vs Q E hr h => ?_)⟩
  · obtain ⟨z, ⟨pt, t, rfl, ht, hw, rfl⟩, k⟩ := h
    rfl
  obtain ⟨z, ⟨pt, t, rfl, ht, hw, rfl⟩, k⟩ := h
  refine ⟨_, (pss_cons (ps_set (i := 1) sc_states_come_to.nd rfl (by first | exact Or.inl rfl | exact Or.inr rfl) (pe_lst (pa_cons (pe_fldK (K := K) rfl (pv 0) rfl) pa_nil))) (pss_cons (ps_set (i := 2) sc_states_come_to.nd rfl (by first | exact Or.inl rfl | exact Or.inr rfl) pe_int) (pss_cons (ps_while PassesOwn.never (pt_cmpR op_lt (pv 2) (pe_callB (call_lenK (K := K) rfl) (by rfl) T.b_len (by decide +kernel) (pa_cons (pv 1) pa_nil)) (nomark _)) (pss_cons (ps_set (i := 3) sc_states_come_to.nd rfl (by first | exact Or.inl rfl | exact Or.inr rfl) (pe_call G_states_behind (hr.mono (by decide)) rfl g_states_behind k_states_behind b_states_behind .nil pass0 (pa_cons (pv 0) (pa_cons (pe_ix (ix_listK (K := K) rfl) (pv 1) (pv 2) (fun _ _ => rfl)) pa_nil)))) (pss_cons (ps_for PassesOwn.never rfl (pi_listK (K := K) rfl (pv 3)) (pg_name (i := 4) sc_states_come_to.nd rfl (by first | exact Or.inl rfl | exact Or.inr rfl)) (pss_one (ps_if (pt_cmpR (op_notInK (K := K) rfl) (pv 4) (pv 1) (by rfl)) (pss_one (ps_expr (pe_bm PySem.F.plainAttrs_list PySem.F.slot_list_append PySem.F.type_list_append mt_append (pv 1) (pa_cons (pv 4) pa_nil)))) pss_nil))) (pss_one (ps_aug (i := 2) sc_states_come_to.nd rfl (by first | exact Or.inl rfl | exact Or.inr rfl) pe_int ip_add))))) (pss_one (ps_ret (pe_callB cr_sorted (by rfl) T.b_sorted (by decide +kernel) (pa_cons (pv 1) pa_nil))))))), ?_⟩
  have hp16 := hw.lt16
  refine q_asgL (xs := [natV t.start]) (el_lst (ea_cons (ev_so T ht (ev_var rfl)) ea_nil) (by show 1 ≤ 100000; decide)) (fun pl H1 hpl e1 hl => ?_)
  refine q_asg (v := natV 0) ev_c (fun H2 e2 => ?_)
  refine q_while (fun m σ' H' => ∃ (n : Nat) (l : List Nat) (oE o : Option V), m = 16 - n ∧ σ' = [some (.ref pt), some (.ref pl), some (natV n), oE, o] ∧ Ex H H' ∧ H' pl = some (.lst (l.map natV)) ∧ Found t l n)
    16 ⟨0, [t.start], none, none, rfl, rfl, e1.trans e2, e2 _ _ hl, ⟨List.nodup_cons.mpr ⟨List.not_mem_nil, List.nodup_nil⟩, List.mem_singleton.mpr rfl, fun x hx => by rw [List.mem_singleton.mp hx]; exact .here, Nat.zero_le _, fun i u hi => by omega⟩⟩ (fun m σ' H' ⟨n, l, oE, o, hm, hσ, e, hl, F⟩ => ?_)
  subst hm hσ
  have hlen := F.len hw
  refine ⟨decide ((n : Int) < (l.length : Int)), et_test (ev_op (ev_var rfl) (ev_is (ev_len (xs := l.map natV) (ev_var rfl) (sq_of hl)) (by rw [List.length_map])) rv_I0), fun hb H3 e3 => ?_, fun hb H3 e3 => ?_⟩
  · have hn : n < l.length := by
      have := of_decide_eq_true hb
      omega
    have hu : l[n]? = some l[n] := List.getElem?_eq_getElem hn
    have cu : Come t l[n] := F.cm _ (List.getElem_mem hn)
    refine ⟨fun σ2 H2 => ∃ (l' : List Nat) (oE o : Option V), σ2 = [some (.ref pt), some (.ref pl), some (natV (n + 1)), oE, o] ∧ Ex H H2 ∧ H2 pl = some (.lst (l'.map natV)) ∧ Found t l' (n + 1), fun σ2 H2 ⟨l', oE, o, h1, h2, h3, h4⟩ => ⟨16 - (n + 1), by omega, n + 1, l', oE, o, rfl, h1, h2, h3, h4⟩, ?_⟩
    refine q_asgL (xs := (behinds t l[n]).map natV) (el_call (ea_cons (ev_var rfl) (ea_cons (ev_ixN (i := n) (ev_var rfl) (ev_var rfl) (e3 _ _ hl) (by rw [List.getElem?_map, hu]; rfl)) ea_nil)) (spL_of fun H4 e4 => ⟨pt, t, l[n], rfl, ht.mono ((e.trans e3).trans e4), hw, rfl⟩)) (fun p H4 hp e4 h4 => ?_)
    have hne : p ≠ pl := fun q => by
      subst q
      rw [e3 _ _ hl] at hp
      cases hp
    refine q_forLn (xs := (behinds t l[n]).map natV) (ev_var rfl) (sq_of h4)
      (fun i σ' H' => ∃ (l' : List Nat) (o : Option V), σ' = [some (.ref pt), some (.ref pl), some (natV n), some (.ref p), o] ∧ Ex H H' ∧ H' p = some (.lst ((behinds t l[n]).map natV)) ∧ H' pl = some (.lst (l'.map natV)) ∧ Adds t l l[n] i l')
      (fun H5 e5 => ⟨l, o, rfl, ((e.trans e3).trans e4).trans e5, e5 _ _ h4, e5 _ _ (e4 _ _ (e3 _ _ hl)), F.nd, ⟨[], (List.append_nil _).symm⟩, F.cm, fun x hx => by cases hx⟩) (fun i σ' H' _ ⟨_, _, _, _, h, _, _⟩ => sq_of h) (fun i x σ' H' hx ⟨l', o, hσ, e5, hp5, hl5, ad⟩ => ?_) (fun σ' H' ⟨l', o, hσ, e5, hp5, hl5, ad⟩ => ?_)
    · subst hσ
      rw [List.getElem?_map] at hx
      cases q : (behinds t l[n])[i]? with
      | none => rw [q] at hx; cases hx
      | some v =>
        rw [q] at hx
        cases (Option.some.inj hx)
        have cv : Come t v := by
          obtain ⟨a, h1, h2, h3⟩ := behinds_mem.mp (List.mem_of_getElem? q)
          rw [← h3]
          exact .by_ cu h1 h2
        have nx := ad.next q cv
        have hlen2 : l'.length ≤ 16 := Nat.le_trans (nodup_len _ l' ad.nd fun x hx => (ad.cm x hx).lt hw) hw.lt16
        refine s_when (b := !l'.contains v) (et_is (et_test (ev_op (ev_var rfl) (ev_var rfl) (rv_niL (sq_of hl5) rfl (flat_nats l')))) (by rw [inV_nat])) (fun hb H6 e6 => ?_) (fun hb H6 e6 => ?_)
        · have hc : l'.contains v = false := by simpa using hb
          refine s_app (xs := l'.map natV) (e6 _ _ hl5) (ev_var rfl) (ev_var rfl) (by rw [List.length_map]; omega) (fun H7 e7 => ⟨l' ++ [v], some (natV v), rfl, Ex.mut ((e5.trans e6).trans e7) hpl, ?_, ?_, ?_⟩)
          · rw [upd_ne hne]
            exact e7 _ _ (e6 _ _ hp5)
          · rw [upd_same, List.map_append]
            rfl
          · unfold addNew at nx
            rw [hc, if_neg (by decide)] at nx
            exact nx
        · have hc : l'.contains v = true := by simpa using hb
          refine ⟨l', some (natV v), rfl, e5.trans e6, e6 _ _ hp5, e6 _ _ hl5, ?_⟩
          unfold addNew at nx
          rw [if_pos hc] at nx
          exact nx
    · subst hσ
      refine s_aug (a := (n : Int)) (b := 1) rfl ev_c (fun H6 e6 => ⟨l', some (.ref p), o, rfl, e5.trans e6, e6 _ _ hl5, ad.nd, ?_, ad.cm, ?_, fun i u hi hu2 x hx => ?_⟩)
      · obtain ⟨r, hr⟩ := ad.pre
        rw [hr]
        exact List.mem_append_left _ F.st
      · obtain ⟨r, hr⟩ := ad.pre
        rw [hr, List.length_append]
        omega
      · obtain ⟨r, hr⟩ := ad.pre
        rw [hr, List.getElem?_append_left (by omega)] at hu2
        by_cases c : i < n
        · rw [hr]
          exact List.mem_append_left _ (F.cl i u c hu2 x hx)
        · have c : i = n := by omega
          subst c
          rw [hu] at hu2
          cases (Option.some.inj hu2)
          refine ad.got x ?_
          rw [List.length_map, List.take_length]
          exact hx
  · have hn : n = l.length := by
      have := of_decide_eq_false hb
      have := F.le
      omega
    subst hn
    refine (ev_var (i := 1) (v := .ref pl) rfl) H3 (Ex.refl H3) _ fun H4 e4 => ⟨pl, l.map (fun n : Nat => (n : Int)), rfl, sq_of (by rw [List.map_map]; exact e4 _ _ (e3 _ _ hl)), by rw [List.length_map]; omega, fun ns p perm srt hp => ?_⟩
    have hperm : (ns.map Int.toNat).Perm l := by
      have := perm.map Int.toNat
      rw [List.map_map] at this
      refine this.trans (List.Perm.of_eq ?_)
      conv => rhs; rw [← List.map_id l]
      exact List.map_congr_left fun x _ => Int.toNat_natCast x
    have hback : ns.map V.int = (ns.map Int.toNat).map natV := by
      rw [List.map_map]
      refine List.map_congr_left fun x hx => ?_
      obtain ⟨y, _, rfl⟩ := List.mem_map.mp (perm.mem_iff.mp hx)
      show V.int _ = V.int _
      rfl
    have hsort : (ns.map Int.toNat).Pairwise (· < ·) := by
      have h1 : (ns.map Int.toNat).Nodup := hperm.nodup_iff.mpr F.nd
      have h2 : (ns.map Int.toNat).Pairwise (· ≤ ·) := by
        rw [List.pairwise_map]
        exact srt.imp fun h => Int.toNat_le_toNat h
      exact (h2.and h1).imp fun ⟨a, b⟩ => by omega
    have hr := reach_eq hw hsort fun x => (hperm.mem_iff).trans (F.all x)
    refine k p _ (fresh_back ((e.trans e3).trans e4) hp) (((e.trans e3).trans e4).trans (Ex.new hp)) ?_
    rw [upd_same, hback, hr]
end
end PC

set_option Elab.async false
set_option linter.all false
set_option maxRecDepth 100000
set_option maxHeartbeats 2000000
namespace PC
open PySem PySem.Spec PyProof.Rows L2 Evl
open Pn02 (Clause)
/-! ### what is made, by what holds of it -/
def EvP (te : TE) (σ : L2.St) (H : Hp) (Y : V → Hp → Prop) : Prop := ∀ H1, Ex H H1 → ∀ Q : VK, (∀ v H2, Ex H1 H2 → Y v H2 → Q v H2) → te σ H1 Q
def RetP (Y : V → Hp → Prop) (H : Hp) (Q : VK) : Prop := ∀ v H2, Ex H H2 → Y v H2 → Q v H2
def spP (asks : List V → Hp → (V → Hp → Prop) → Prop) : Sp := fun vs H Q _ => ∃ Y, asks vs H Y ∧ RetP Y H Q
def SpP (sp : Sp) (vs : List V) (H : Hp) (Y : V → Hp → Prop) : Prop := ∀ H1, Ex H H1 → ∀ Q : VK, (∀ v H2, Ex H1 H2 → Y v H2 → Q v H2) → ∀ E : XK, sp vs H1 Q E
section
variable {K : PySem.W.Frag} {σ : L2.St} {H H' : Hp} {ta tb te tl : TE} {t u : TT} {x y z v : V} {D : Ends} {tu tw tz : TS} {Y : V → Hp → Prop}
theorem spP_of {asks : List V → Hp → (V → Hp → Prop) → Prop} {vs : List V} (h : ∀ H1, Ex H H1 → asks vs H1 Y) : SpP (spP asks) vs H Y := fun H1 e Q q _ => ⟨Y, h H1 e, q⟩
theorem ep_call {sp : Sp} {dvs vs : List V} {E : XK} {ta : TA} (h : EvA ta σ H vs) (hs : SpP sp (vs ++ dvs) H Y) : EvP (tCall sp dvs E ta) σ H Y := fun H1 e Q q =>
  h H1 e _ fun H2 e2 => hs H2 (e.trans e2) Q (fun v H3 e3 h3 => q v H3 (e2.trans e3) h3) E
theorem s_asgP {i : Nat} (h : EvP te σ H Y) (k : ∀ v H1, Ex H H1 → Y v H1 → D.nx (σ.set i (some v)) H1) : tAsg te (gName i) D σ H := h H (Ex.refl H) _ fun v H1 e y => k v H1 e y
theorem q_asgP {i : Nat} (h : EvP te σ H Y) (k : ∀ v H1, Ex H H1 → Y v H1 → tz D (σ.set i (some v)) H1) : tSeq (tAsg te (gName i)) tz D σ H := s_asgP (D := { D with nx := tz D }) h k
theorem s_retP (h : EvP te σ H Y) (k : ∀ v H1, Ex H H1 → Y v H1 → D.rt v H1) : tRet te D σ H := h H (Ex.refl H) _ k
theorem ep_ev (h : Ev te σ H v) : EvP te σ H (fun z _ => z = v) := fun H1 e Q q => h H1 e Q fun H2 e2 => q v H2 e2 rfl
theorem ep_evL {xs : List V} (h : EvL te σ H xs) : EvP te σ H (fun z H2 => ∃ p, z = .ref p ∧ H p = none ∧ H2 p = some (.lst xs)) := fun H1 e Q q => h H1 e Q fun p H2 hp e2 h2 => q _ H2 e2 ⟨p, rfl, fresh_back e hp, h2⟩
theorem EvP.mono (e : Ex H H') (h : EvP te σ H Y) : EvP te σ H' Y := fun H1 a Q q => h H1 (e.trans a) Q q
theorem EvP.imp {Z : V → Hp → Prop} (h : EvP te σ H Y) (i : ∀ v H2, Y v H2 → Z v H2) : EvP te σ H Z := fun H1 a Q q => h H1 a Q fun v H2 e2 y => q v H2 e2 (i v H2 y)
/-- lists of lists -/
def ListsAt (H : Hp) (ys : List V) (cs : List (List V)) : Prop := ys.length = cs.length ∧ ∀ (j : Nat) (c : List V), cs[j]? = some c → ∃ p, ys[j]? = some (.ref p) ∧ H p = some (.lst c)
theorem ListsAt.ex (e : Ex H H') {ys : List V} {cs : List (List V)} (h : ListsAt H ys cs) : ListsAt H' ys cs := by
  refine ⟨h.1, fun j c hc => ?_⟩
  obtain ⟨p, h1, h2⟩ := h.2 j c hc
  exact ⟨p, h1, e _ _ h2⟩
/-- .. an object that is none of them may change -/
theorem ListsAt.mut {ys : List V} {cs : List (List V)} {q : Addr} {o : HO} (h : ListsAt H ys cs) (hq : ∀ p, V.ref p ∈ ys → p ≠ q) : ListsAt (upd H q o) ys cs := by
  refine ⟨h.1, fun j c hc => ?_⟩
  obtain ⟨p, h1, h2⟩ := h.2 j c hc
  refine ⟨p, h1, ?_⟩
  rw [upd_ne (hq p (List.mem_of_getElem? h1))]
  exact h2
theorem ListsAt.snoc {ys : List V} {cs : List (List V)} {p : Addr} {c : List V} (h : ListsAt H ys cs) (hp : H p = some (.lst c)) : ListsAt H (ys ++ [.ref p]) (cs ++ [c]) := by
  refine ⟨by rw [List.length_append, List.length_append, h.1]; rfl, fun j d hd => ?_⟩
  by_cases k : j < cs.length
  · rw [List.getElem?_append_left k] at hd
    obtain ⟨q, h1, h2⟩ := h.2 j d hd
    exact ⟨q, by rw [List.getElem?_append_left (by rw [h.1]; exact k)]; exact h1, h2⟩
  · rw [List.getElem?_append_right (by omega)] at hd
    have e0 : j - cs.length = 0 := by
      have := (List.getElem?_eq_some_iff.mp hd).1
      rw [List.length_singleton] at this
      omega
    rw [e0] at hd
    cases (Option.some.inj hd)
    refine ⟨p, ?_, hp⟩
    rw [List.getElem?_append_right (by rw [h.1]; omega), h.1, e0]
    rfl
theorem ListsAt.append {ys zs : List V} {cs ds : List (List V)} (h : ListsAt H ys cs) (g : ListsAt H zs ds) : ListsAt H (ys ++ zs) (cs ++ ds) := by
  refine ⟨by rw [List.length_append, List.length_append, h.1, g.1], fun j d hd => ?_⟩
  by_cases k : j < cs.length
  · rw [List.getElem?_append_left k] at hd
    obtain ⟨q, h1, h2⟩ := h.2 j d hd
    exact ⟨q, by rw [List.getElem?_append_left (by rw [h.1]; exact k)]; exact h1, h2⟩
  · rw [List.getElem?_append_right (by omega)] at hd
    obtain ⟨q, h1, h2⟩ := g.2 _ d hd
    exact ⟨q, by rw [List.getElem?_append_right (by rw [h.1]; omega), h.1]; exact h1, h2⟩
def CwL (H : Hp) (cs : Nat → List V) (Dl : Addr) (i : Nat) (H' : Hp) : Prop := H Dl = none ∧ Ex H H' ∧ ∃ ys : List V, H' Dl = some (.lst ys) ∧ (∀ p, V.ref p ∈ ys → p ≠ Dl ∧ H p = none) ∧ ListsAt H' ys ((List.range i).map cs)
theorem cwl_turn {H0 : Hp} {cs : Nat → List V} {Dl : Addr} {i : Nat} {σ2 : L2.St} (p : CwL H0 cs Dl i H') (hi : i < 50000) (he : EvL te σ2 H0 (cs i)) :
    te σ2 H' fun y H4 => ∃ acc, H4 Dl = some (.lst acc) ∧ acc.length < sizeLine ∧ CwL H0 cs Dl (i + 1) (upd H4 Dl (.lst (acc ++ [y]))) := by
  obtain ⟨p1, p2, ys, p3, p4, p5⟩ := p
  have hl := p5.1
  rw [List.length_map, List.length_range] at hl
  refine he H' p2 _ fun q H4 hq e4 h4 => ⟨ys, e4 _ _ p3, sz_lt (by omega), p1, Ex.mut (p2.trans e4) p1, ys ++ [.ref q], upd_same, fun r hr => ?_, ?_⟩
  · rcases List.mem_append.mp hr with hr | hr
    · exact p4 r hr
    · have e : r = q := by
        have := List.mem_singleton.mp hr
        injection this
      subst e
      exact ⟨(fun z => by
        rw [z, p3] at hq
        cases hq), fresh_back p2 hq⟩
  · rw [List.range_succ, List.map_append]
    refine ListsAt.mut ((p5.ex e4).snoc h4) fun r hr => ?_
    rcases List.mem_append.mp hr with hr | hr
    · exact (p4 r hr).1
    · have e : r = q := by
        have := List.mem_singleton.mp hr
        injection this
      subst e
      intro z
      rw [z, p3] at hq
      cases hq
/-- [[..] for x in xs] -/
theorem ep_lists {a : Addr} {xs : List V} {j : Nat} {vs : List Nat} (cs : Nat → List V) (h : Ev tl σ H (.ref a)) (hx : H a = some (.lst xs)) (hz : xs.length ≤ 40000) (hw : ∀ x, wipe ((wipe σ vs).set j (some x)) vs = wipe σ vs)
    (he : ∀ (i : Nat) (x : V) H1, Ex H H1 → xs[i]? = some x → EvL te ((wipe σ vs).set j (some x)) H1 (cs i)) :
    EvP (tLc (iList K tl) (gName j) tYes te vs) σ H (fun v H2 => ∃ p ys, v = .ref p ∧ H p = none ∧ H2 p = some (.lst ys) ∧ (∀ q, V.ref q ∈ ys → q ≠ p ∧ H q = none) ∧ ListsAt H2 ys ((List.range xs.length).map cs)) := fun H0 e Q q => h H0 e _ fun H1 e1 => ⟨a, rfl, ⟨xs, sq_of (e1 _ _ (e _ _ hx))⟩, fun Dl hD =>
  lc_list (xs := xs) (CwL H1 cs Dl) ⟨hD, Ex.new hD, [], upd_same, (fun _ h => by cases h), rfl, fun j y hj => by cases hj⟩ (fun i H' _ p => sq_of (p.2.1 _ _ (e1 _ _ (e _ _ hx)))) (fun i x H' hi p => ⟨hw x, cwl_turn p (by have := (List.getElem?_eq_some_iff.mp hi).1; omega) (he i x H1 (e.trans e1) hi)⟩)
    (fun H' p => by
      obtain ⟨p1, p2, ys, p3, p4, p5⟩ := p
      exact q _ H' (e1.trans p2) ⟨Dl, ys, rfl, fresh_back (e.trans e1) p1, p3, fun r hr => ⟨(p4 r hr).1, fresh_back (e.trans e1) (p4 r hr).2⟩, p5⟩)⟩
/-- .. over a new list -/
theorem ep_listsN {xs : List V} {j : Nat} {vs : List Nat} (cs : Nat → List V) (h : EvL tl σ H xs) (hz : xs.length ≤ 40000) (hw : ∀ x, wipe ((wipe σ vs).set j (some x)) vs = wipe σ vs)
    (he : ∀ (i : Nat) (x : V) H1, Ex H H1 → xs[i]? = some x → EvL te ((wipe σ vs).set j (some x)) H1 (cs i)) :
    EvP (tLc (iList K tl) (gName j) tYes te vs) σ H (fun v H2 => ∃ p ys, v = .ref p ∧ H p = none ∧ H2 p = some (.lst ys) ∧ (∀ q, V.ref q ∈ ys → q ≠ p ∧ H q = none) ∧ ListsAt H2 ys ((List.range xs.length).map cs)) := fun H0 e Q q => h H0 e _ fun a H1 ha e1 hx => ⟨a, rfl, ⟨xs, sq_of hx⟩, fun Dl hD =>
  lc_list (xs := xs) (CwL H1 cs Dl) ⟨hD, Ex.new hD, [], upd_same, (fun _ h => by cases h), rfl, fun j y hj => by cases hj⟩ (fun i H' _ p => sq_of (p.2.1 _ _ hx)) (fun i x H' hi p => ⟨hw x, cwl_turn p (by have := (List.getElem?_eq_some_iff.mp hi).1; omega) (he i x H1 (e.trans e1) hi)⟩)
    (fun H' p => by
      obtain ⟨p1, p2, ys, p3, p4, p5⟩ := p
      exact q _ H' (e1.trans p2) ⟨Dl, ys, rfl, fresh_back (e.trans e1) p1, p3, fun r hr => ⟨(p4 r hr).1, fresh_back (e.trans e1) (p4 r hr).2⟩, p5⟩)⟩
end
/-! ### enumerate -/
section
variable {K : PySem.W.Frag} {σ : L2.St} {H H' : Hp} {ta tb te tl : TE} {t u : TT} {D : Ends} {tu tw tz : TS}
theorem s_forE {a : Addr} {xs : List V} {i j : Nat} (h : Ev tl σ H (.ref a)) (hx : H a = some (.lst xs)) (Pv : Nat → L2.St → Hp → Prop) (h0 : ∀ H1, Ex H H1 → Pv 0 σ H1) (hl : ∀ k σ' H', k ≤ xs.length → Pv k σ' H' → SqL K H' a xs)
    (hs : ∀ (k : Nat) (x : V) σ' H' H'', xs[k]? = some x → Pv k σ' H' → Ex H' H'' → tu { D with nx := Pv (k + 1), ct := Pv (k + 1), bk := D.nx } ((σ'.set i (some (natV k))).set j (some x)) H'') (hd : ∀ σ' H', Pv xs.length σ' H' → D.nx σ' H') :
    tFor (iEnum K (tCons tl tNil)) (gTup K 2 (gCons (gName i) (gCons (gName j) gNil))) tu D σ H :=
  h H (Ex.refl H) _ fun H1 e => ⟨a, xs, rfl, sq_of (e _ _ hx), for_it walk_enum Pv (h0 H1 e) hl (fun k x σ' H' H2 hk p ⟨T, y, z, e1, e2, e3, e4, e5⟩ => by
    subst e1 e3
    cases (Option.some.inj e4)
    exact ⟨T, [_, z], rfl, st_of upd_same, rfl, _, _, rfl, _, _, rfl, rfl, hs k z σ' H' _ e5 p (Ex.new e2)⟩) hd⟩
theorem q_forE {a : Addr} {xs : List V} {i j : Nat} (h : Ev tl σ H (.ref a)) (hx : H a = some (.lst xs)) (Pv : Nat → L2.St → Hp → Prop) (h0 : ∀ H1, Ex H H1 → Pv 0 σ H1) (hl : ∀ k σ' H', k ≤ xs.length → Pv k σ' H' → SqL K H' a xs)
    (hs : ∀ (k : Nat) (x : V) σ' H' H'', xs[k]? = some x → Pv k σ' H' → Ex H' H'' → tu { D with nx := Pv (k + 1), ct := Pv (k + 1), bk := tz D } ((σ'.set i (some (natV k))).set j (some x)) H'') (hd : ∀ σ' H', Pv xs.length σ' H' → tz D σ' H') :
    tSeq (tFor (iEnum K (tCons tl tNil)) (gTup K 2 (gCons (gName i) (gCons (gName j) gNil))) tu) tz D σ H := s_forE (D := { D with nx := tz D }) h hx Pv h0 hl hs hd
/-- a comprehension over enumerate -/
theorem el_lcE {a : Addr} {xs : List V} {i j : Nat} {vs : List Nat} (f : Nat → Bool) (v : Nat → V) (h : Ev tl σ H (.ref a)) (hx : H a = some (.lst xs)) (hz : xs.length ≤ 40000) (hw : ∀ x y, wipe (((wipe σ vs).set i (some x)).set j (some y)) vs = wipe σ vs)
    (ht : ∀ (k : Nat) (x : V) H1, Ex H H1 → xs[k]? = some x → EvT t (((wipe σ vs).set i (some (natV k))).set j (some x)) H1 (f k)) (he : ∀ (k : Nat) (x : V) H1, Ex H H1 → xs[k]? = some x → f k = true → Ev te (((wipe σ vs).set i (some (natV k))).set j (some x)) H1 (v k)) :
    EvL (tLc (iEnum K (tCons tl tNil)) (gTup K 2 (gCons (gName i) (gCons (gName j) gNil))) t te vs) σ H (given xs.length f v) := fun H0 e Q q => h H0 e _ fun H1 e1 => ⟨a, xs, rfl, sq_of (e1 _ _ (e _ _ hx)), fun Dl hD =>
  lc_it walk_enum (Cw H1 f v Dl) ⟨hD, Ex.new hD, upd_same⟩ (fun k H' _ p => sq_of (p.2.1 _ _ (e1 _ _ (e _ _ hx)))) (fun k x H' H2 hk p ⟨T, y, z, e2, e3, e4, e5, e6⟩ => by
    subst e2 e4
    cases (Option.some.inj e5)
    obtain ⟨p1, p2, p3⟩ := p
    have p' : Cw H1 f v Dl k (upd H' T (.tup [natV k, z])) := ⟨p1, p2.trans (Ex.new e3), Ex.new e3 _ _ p3⟩
    exact ⟨T, [_, z], rfl, st_of upd_same, rfl, _, _, rfl, _, _, rfl, rfl, hw _ _, cw_turn p' (by omega) (ht k z H1 (e.trans e1) e6) (fun hf => he k z H1 (e.trans e1) e6 hf)⟩)
    (fun H' p => q Dl H' (fresh_back e1 p.1) (e1.trans p.2.1) p.2.2)⟩
end
section
variable {K : PySem.W.Frag} {σ : L2.St} {H H' : Hp} {ta tb te tl : TE} {D : Ends} {tz : TS} {r : R2} {Y1 : V → Hp → Prop} {Y2 : V → Hp → V → Hp → Prop}
theorem q_asgOp {i : Nat} (ha : EvP ta σ H Y1) (hb : ∀ v H2, Ex H H2 → Y1 v H2 → EvP tb σ H2 (Y2 v H2)) (k : ∀ v1 v2 H2 H3, Ex H H2 → Y1 v1 H2 → Ex H2 H3 → Y2 v1 H2 v2 H3 → r v1 v2 H3 (fun z H4 => tz D (σ.set i (some z)) H4)) : tSeq (tAsg (tOp r ta tb) (gName i)) tz D σ H :=
  ha H (Ex.refl H) _ fun v1 H2 e2 y1 => hb v1 H2 e2 y1 H2 (Ex.refl H2) _ fun v2 H3 e3 y2 => k v1 v2 H2 H3 e2 y1 e3 y2
/-- xs.extend(e) -/
theorem s_ext {l : Addr} {xs : List V} {Y : V → Hp → Prop} (hl : H l = some (.lst xs)) (ha : Ev ta σ H (.ref l)) (h : ∀ H1, Ex H H1 → EvP te σ H1 Y) (k : ∀ v H1, Ex H H1 → Y v H1 → ∃ b zs, v = .ref b ∧ H1 b = some (.lst zs) ∧ xs.length + zs.length ≤ 100000 ∧ D.nx σ (upd H1 l (.lst (xs ++ zs)))) :
    tDrop (tBM K "list" rExtend ta (tCons te tNil)) D σ H := ha H (Ex.refl H) _ fun H1 e1 => ⟨.inl ⟨rfl, xs, sq_of (e1 _ _ hl)⟩, h H1 e1 H1 (Ex.refl H1) _ fun v H2 e2 y => by
  obtain ⟨b, zs, rfl, hb, hz, q⟩ := k v H2 (e1.trans e2) y
  exact ⟨l, b, xs, zs, rfl, rfl, e2 _ _ (e1 _ _ hl), hb, sz_of hz, q⟩⟩
theorem ep_lst0 : EvP (tLst (tCons (tLst tNil) tNil)) σ H (fun v H2 => ∃ p0 pL, v = .ref pL ∧ H2 pL = some (.lst [.ref p0]) ∧ H2 p0 = some (.lst [])) := fun H1 e Q q =>
  ⟨by show 0 ≤ sizeLine; decide, fun p0 hp0 => ⟨by show 1 ≤ sizeLine; decide, fun pL hpL => q _ _ ((Ex.new hp0).trans (Ex.new hpL)) ⟨p0, pL, rfl, upd_same, Ex.new hpL _ _ upd_same⟩⟩⟩
end
section
variable {K : PySem.W.Frag} {σ : L2.St} {H H' : Hp} {ta tb te tl : TE}
theorem el_cat {xs ys : List V} (ha : EvL ta σ H xs) (hb : EvL tb σ H ys) (hz : xs.length + ys.length ≤ 100000) : EvL (tOp rCat ta tb) σ H (xs ++ ys) := fun H1 e Q q =>
  ha H1 e _ fun p H2 hp e2 h2 => hb H2 (e.trans e2) _ fun r H3 hr e3 h3 => ⟨p, r, xs, ys, rfl, rfl, e3 _ _ h2, h3, sz_of hz, fun l hl => q l _ (fresh_back (e2.trans e3) hl) ((e2.trans e3).trans (Ex.new hl)) upd_same⟩
theorem el_catV {σ : L2.St} {H : Hp} {ta tb : TE} {xs ys : List V} {q : Addr} (ha : EvL ta σ H xs) (hb : Ev tb σ H (.ref q)) (hq : H q = some (.lst ys)) (hz : xs.length + ys.length ≤ 100000) : EvL (tOp rCat ta tb) σ H (xs ++ ys) := fun H1 e Q k =>
  ha H1 e _ fun p H2 hp e2 h2 => hb H2 (e.trans e2) _ fun H3 e3 => ⟨p, q, xs, ys, rfl, rfl, e3 _ _ h2, ((e.trans e2).trans e3) _ _ hq, sz_of hz, fun l hl => k l _ (fresh_back (e2.trans e3) hl) ((e2.trans e3).trans (Ex.new hl)) upd_same⟩
theorem ev_lenN {σ : L2.St} {H : Hp} {ta : TE} {p : Addr} {xs : List V} {n : Nat} (ha : Ev ta σ H (.ref p)) (h : H p = some (.lst xs)) (hn : xs.length = n) : Ev (tCB (rLenS K) (tCons ta tNil)) σ H (natV n) := by
  rw [← hn]
  exact ev_len ha (sq_of h)
theorem sum_cast : ∀ ms : List Nat, (ms.map (fun n : Nat => (n : Int))).sum = ((ms.sum : Nat) : Int)
  | [] => rfl
  | a :: l => by
    rw [List.map_cons, List.sum_cons, List.sum_cons, Int.natCast_add, sum_cast l]
theorem ev_sumN {σ : L2.St} {H : Hp} {te : TE} {ms : List Nat} (h : EvL te σ H (ms.map natV)) : Ev (tCB (rSum K) (tCons te tNil)) σ H (natV ms.sum) := fun H1 e Q q => h H1 e _ fun p H2 hp e2 h3 =>
  ⟨p, ms.map (fun n : Nat => (n : Int)), rfl, sq_of (by rw [List.map_map]; exact h3), by
    rw [sum_cast]
    exact q H2 e2⟩
theorem ev_addN {σ : L2.St} {H : Hp} {ta tb : TE} {a b : Nat} (ha : Ev ta σ H (natV a)) (hb : Ev tb σ H (natV b)) : Ev (tOp (rI0 fun i j => .int (i + j)) ta tb) σ H (natV (a + b)) := by
  refine ev_is (ev_op ha hb rv_I0) ?_
  show V.int ((a : Int) + (b : Int)) = V.int ((a + b : Nat) : Int)
  rw [Int.natCast_add]
theorem nats_opt (l : List Nat) : l.map natV = (l.map some).map optV := by
  rw [List.map_map]
  rfl
theorem somes_eq {l m : List Nat} : decide (l.map some = m.map some) = decide (l = m) := decide_eq_decide.mpr ⟨fun h => by
  have := congrArg (List.map fun o : Option Nat => o.getD 0) h
  rw [List.map_map, List.map_map] at this
  have e : ∀ l : List Nat, l.map ((fun o : Option Nat => o.getD 0) ∘ some) = l := fun l => List.map_id l
  rw [e, e] at this
  exact this, fun h => by rw [h]⟩
/-- two new lists of numbers, held side by side -/
theorem ev_eqLL {l m : List Nat} (ha : EvL ta σ H (l.map natV)) (hb : EvL tb σ H (m.map natV)) : Ev (tOp (rEqD K) ta tb) σ H (.bl (decide (l = m))) := by
  rw [← somes_eq]
  rw [nats_opt] at ha hb
  refine ev_opLL ha hb fun p q H1 hp hq _ H2 e2 Q k => ⟨_, _, .lst (sq_of (e2 _ _ hp)) (dp_row _), .lst (sq_of (e2 _ _ hq)) (dp_row _), shaped_row _, shaped_row _, ?_⟩
  have e3 : PyData.eqv (.list ((l.map some).map optD)) (.list ((m.map some).map optD)) = decide (l.map some = m.map some) := by
    unfold PyData.eqv
    exact eqv_row _ _
  rw [e3]
  exact k H2 (Ex.refl H2)
end
end PC

set_option Elab.async false
set_option linter.all false
set_option maxRecDepth 100000
set_option maxHeartbeats 2000000
namespace PC
open PySem PySem.Spec PyProof.Rows L2 Evl
open Pn02 (Clause)
section
variable {P : Program} {w : World} {K : PySem.W.Frag} {mg : Str → Option Value} {base : Heap} {A : Ad} {f : Addr} {fd : FuncData}
/-! ### clauses, checked -/
abbrev s_is_true : Stmt := top 15
abbrev N_is_true : List Str := ["literal", "state"]
theorem sc_is_true : FnScope N_is_true ["literal", "state"] (defScope s_is_true) := ⟨rfl, rfl, rfl, by decide +kernel, rfl, by decide +kernel, by decide +kernel⟩
abbrev s_holds : Stmt := top 16
abbrev N_holds : List Str := ["clause", "state"]
theorem sc_holds : FnScope N_holds ["clause", "state"] (defScope s_holds) := ⟨rfl, rfl, rfl, by decide +kernel, rfl, by decide +kernel, by decide +kernel⟩
abbrev s_first_broken : Stmt := top 17
abbrev N_first_broken : List Str := ["task", "clauses", "inside", "place", "clause", "number", "act", "state"]
theorem sc_first_broken : FnScope N_first_broken ["task", "clauses", "inside"] (defScope s_first_broken) := ⟨rfl, rfl, rfl, by decide +kernel, rfl, by decide +kernel, by decide +kernel⟩
abbrev s_clauses_check : Stmt := top 18
abbrev N_clauses_check : List Str := ["task", "clauses", "place", "clause", "inside", "state", "broken"]
theorem sc_clauses_check : FnScope N_clauses_check ["task", "clauses"] (defScope s_clauses_check) := ⟨rfl, rfl, rfl, by decide +kernel, rfl, by decide +kernel, by decide +kernel⟩
def sp_is_true (_ : PySem.W.Frag) (_ : Ad) : Sp := spV fun vs _ z => ∃ l s, vs = [natV l, natV s] ∧ z = .bl (Pn02.lit s l)
theorem lit_eq (s l : Nat) : (!decide (V.int ((s / 2 ^ (l / 2) % 2 : Nat) : Int) = V.int ((l % 2 : Nat) : Int))) = Pn02.lit s l := by
  unfold Pn02.lit Pn.bit
  rw [int_eq_nat]
  rcases Nat.mod_two_eq_zero_or_one (s / 2 ^ (l / 2)) with h | h <;> rcases Nat.mod_two_eq_zero_or_one l with g | g <;> rw [h, g] <;> rfl
theorem d_is_true (T : Top K mg A) (F : Fun K "is_true" "is_true" s_is_true f fd) (hf : mg "is_true" = some (.ref f))  : Def P w K mg base "is_true" 1 ["literal", "state"] (sp_is_true K A) := by
  refine ⟨f, fd, hf, F.kp, F.binds (fun _ _ _ _ _ _ us hl => match us, hl with | [_, _], _ => rfl), F.ok sc_is_true (fun vs H Q E h => ?_) (fun cdv A' outer s H vs Q E hr h => ?_)⟩
  · obtain ⟨z, ⟨l, s, rfl, rfl⟩, k⟩ := h
    rfl
  obtain ⟨z, ⟨l, s, rfl, rfl⟩, k⟩ := h
  refine ⟨_, (pss_one (ps_ret (pe_cmpR op_ne (pe_op op_and (pe_op op_shr (pv 1) (pe_op op_fdivN (pv 0) pe_int)) pe_int) (pe_op op_and (pv 0) pe_int) (nomark _)))), ?_⟩
  refine s_ret (v := .bl (Pn02.lit s l)) ?_ (fun H1 e => k.go e)
  have e1 : Ev (tOp (rI (fun i j => j ≠ 0 ∧ j.natAbs < 1073741824) fun i j => .int (i.fdiv j)) (tVar 0) (tC (.int 2))) (start N_is_true [natV l, natV s]) H (.int ((l / 2 : Nat) : Int)) := by
    refine ev_is (ev_op (ev_var rfl) ev_c (rv_I ⟨by decide, by decide⟩)) ?_
    show V.int ((l : Int).fdiv 2) = _
    rw [Int.fdiv_eq_ediv_of_nonneg _ (by decide)]
    rfl
  have e2 : Ev (tOp (rI (fun _ j => 0 ≤ j) fun i j => .int (i / 2 ^ j.toNat)) (tVar 1) (tOp (rI (fun i j => j ≠ 0 ∧ j.natAbs < 1073741824) fun i j => .int (i.fdiv j)) (tVar 0) (tC (.int 2)))) (start N_is_true [natV l, natV s]) H (.int ((s / 2 ^ (l / 2) : Nat) : Int)) := by
    rw [← shr_nat]
    exact ev_shr (ev_var rfl) e1
  rw [← lit_eq]
  refine ev_is (ev_op (ev_band (b := 1) e2 ev_c) (ev_band (a := l) (b := 1) (ev_var rfl) ev_c) (rv_ne rfl)) ?_
  rw [Nat.and_one_is_mod, Nat.and_one_is_mod]
/-- a clause, a row of clauses in the heap -/
def ClauseAt (H : Hp) (v : V) (c : Clause) : Prop := ∃ p, v = .ref p ∧ H p = some (.tup [natV c.1, natV c.2])
theorem ClauseAt.ex {H H' : Hp} {v : V} {c : Clause} (e : Ex H H') (h : ClauseAt H v c) : ClauseAt H' v c := by
  obtain ⟨p, h1, h2⟩ := h
  exact ⟨p, h1, e _ _ h2⟩
def RowAt (H : Hp) (p : Addr) (r : List Clause) : Prop := ∃ xs : List V, H p = some (.lst xs) ∧ xs.length = r.length ∧ ∀ (i : Nat) (c : Clause), r[i]? = some c → ∃ x, xs[i]? = some x ∧ ClauseAt H x c
theorem RowAt.ex {H H' : Hp} {p : Addr} {r : List Clause} (e : Ex H H') (h : RowAt H p r) : RowAt H' p r := by
  obtain ⟨xs, h1, h2, h3⟩ := h
  refine ⟨xs, e _ _ h1, h2, fun i c hc => ?_⟩
  obtain ⟨x, h4, h5⟩ := h3 i c hc
  exact ⟨x, h4, h5.ex e⟩
theorem row_at {H : Hp} {xs : List V} {r : List Clause} (h2 : xs.length = r.length) (h3 : ∀ (i : Nat) (c : Clause), r[i]? = some c → ∃ x, xs[i]? = some x ∧ ClauseAt H x c) {i : Nat} {x : V} (hx : xs[i]? = some x) : ∃ c p, r[i]? = some c ∧ x = .ref p ∧ H p = some (.tup [natV c.1, natV c.2]) := by
  have hi := (List.getElem?_eq_some_iff.mp hx).1
  have hr : r[i]? = some r[i] := List.getElem?_eq_getElem (by omega)
  obtain ⟨y, h4, p, h5, h6⟩ := h3 i _ hr
  rw [hx] at h4
  cases (Option.some.inj h4)
  exact ⟨_, p, hr, h5, h6⟩
theorem ev_all {σ : L2.St} {H : Hp} {te : TE} {bs : List Bool} (h : EvL te σ H (bs.map V.bl)) : Ev (tCB (rAll K) (tCons te tNil)) σ H (.bl (bs.all id)) := fun H1 e Q q => h H1 e _ fun p H2 hp e2 h2 => ⟨p, bs, rfl, sq_of h2, q H2 e2⟩
theorem ev_any {σ : L2.St} {H : Hp} {te : TE} {bs : List Bool} (h : EvL te σ H (bs.map V.bl)) : Ev (tCB (rAny K) (tCons te tNil)) σ H (.bl (bs.any id)) := fun H1 e Q q => h H1 e _ fun p H2 hp e2 h2 => ⟨p, bs, rfl, sq_of h2, q H2 e2⟩
theorem ev_ixT2 {σ : L2.St} {H : Hp} {ta : TE} {p : Addr} {x y : V} (ha : Ev ta σ H (.ref p)) (h : H p = some (.tup [x, y])) : Ev (tOp (rIxT K) ta (tC (.int 0))) σ H x ∧ Ev (tOp (rIxT K) ta (tC (.int 1))) σ H y :=
  ⟨ev_op ha ev_c (rv_ixT (st_of h) (atI_nat (j := 0) rfl)), ev_op ha ev_c (rv_ixT (st_of h) (atI_nat (j := 1) rfl))⟩
def sp_holds (_ : PySem.W.Frag) (_ : Ad) : Sp := spV fun vs H z => ∃ p c s, vs = [.ref p, natV s] ∧ H p = some (.tup [natV c.1, natV c.2]) ∧ z = .bl (Pn02.says s c)
theorem d_holds (T : Top K mg A) (F : Fun K "holds" "holds" s_holds f fd) (hf : mg "holds" = some (.ref f)) (D_is_true : Def P w K mg base "is_true" 1 ["literal", "state"] (sp_is_true K A)) : Def P w K mg base "holds" 2 ["clause", "state"] (sp_holds K A) := by
  obtain ⟨f_is_true, fd_is_true, g_is_true, k_is_true, b_is_true, G_is_true⟩ := D_is_true
  refine ⟨f, fd, hf, F.kp, F.binds (fun _ _ _ _ _ _ us hl => match us, hl with | [_, _], _ => rfl), F.ok sc_holds (fun vs H Q E h => ?_) (fun cdv A' outer s H vs Q E hr h => ?_)⟩
  · obtain ⟨z, ⟨p, c, s, rfl, hp, rfl⟩, k⟩ := h
    rfl
  obtain ⟨z, ⟨p, c, s, rfl, hp, rfl⟩, k⟩ := h
  refine ⟨_, (pss_one (ps_ret (pe_or (pe_call G_is_true (hr.mono (by decide)) rfl g_is_true k_is_true b_is_true .nil pass0 (pa_cons (pe_ix (ix_tupK (K := K) rfl) (pv 0) pe_int (fun _ _ => rfl)) (pa_cons (pv 1) pa_nil))) (pe_one (pe_call G_is_true (hr.mono (by decide)) rfl g_is_true k_is_true b_is_true .nil pass0 (pa_cons (pe_ix (ix_tupK (K := K) rfl) (pv 0) pe_int (fun _ _ => rfl)) (pa_cons (pv 1) pa_nil))))))), ?_⟩
  refine s_ret (v := .bl (Pn02.says s c)) ?_ (fun H1 e => k.go e)
  obtain ⟨g1, g2⟩ := ev_ixT2 (K := K) (ta := tVar 0) (σ := start N_holds [.ref p, natV s]) (ev_var rfl) hp
  exact ev_orV (ev_call (ea_cons g1 (ea_cons (ev_var rfl) ea_nil)) (spV_of fun H2 _ => ⟨c.1, s, rfl, rfl⟩)) (fun _ => ev_call (ea_cons g2 (ea_cons (ev_var rfl) ea_nil)) (spV_of fun H2 _ => ⟨c.2, s, rfl, rfl⟩))
theorem spv_holds {H : Hp} {p : Addr} {c : Clause} {s : Nat} (h : H p = some (.tup [natV c.1, natV c.2])) : SpV (sp_holds K A) [.ref p, natV s] H (.bl (Pn02.says s c)) := spV_of fun H1 e => ⟨p, c, s, rfl, e _ _ h, rfl⟩
/-- the first that is broken, told -/
def brkV (H : Hp) (o : Option (Nat × Nat × Nat)) (v : V) (H2 : Hp) : Prop := (o = none ∧ v = .non) ∨ ∃ q x, o = some x ∧ v = .ref q ∧ H q = none ∧ H2 q = some (.lst [natV x.1, natV x.2.1, natV x.2.2])
theorem brkV.back {H H1 H2 : Hp} {o : Option (Nat × Nat × Nat)} {v : V} (e : Ex H H1) (h : brkV H1 o v H2) : brkV H o v H2 := by
  rcases h with h | ⟨q, x, h1, h2, h3, h4⟩
  · exact .inl h
  · exact .inr ⟨q, x, h1, h2, fresh_back e h3, h4⟩
theorem act_some {t : Pn.Task} {i : Nat} {act : Pn.Act} (h : t.acts[i]? = some act) : i < t.acts.length ∧ t.act i = act := by
  have hi := (List.getElem?_eq_some_iff.mp h).1
  rw [List.getElem?_eq_getElem hi] at h
  exact ⟨hi, (act_get hi).trans (Option.some.inj h)⟩
theorem nat_at {l : List Nat} {i : Nat} {x : V} (h : (l.map natV)[i]? = some x) : ∃ n, l[i]? = some n ∧ x = natV n := by
  rw [List.getElem?_map] at h
  cases q : l[i]? with
  | none => rw [q] at h; cases h
  | some n =>
    rw [q] at h
    exact ⟨n, rfl, (Option.some.inj h).symm⟩
def sp_first_broken (_ : PySem.W.Frag) (A : Ad) : Sp := spP fun vs H Y => ∃ pt t pr r pm m, vs = [.ref pt, .ref pr, .ref pm] ∧ TaskAt A H pt t ∧ WF t ∧ RowAt H pr r ∧ H pm = some (.lst (m.map natV)) ∧ Y = brkV H (brk t r m)
theorem d_first_broken (T : Top K mg A) (F : Fun K "first_broken" "first_broken" s_first_broken f fd) (hf : mg "first_broken" = some (.ref f)) (D_holds : Def P w K mg base "holds" 2 ["clause", "state"] (sp_holds K A)) (D_behind : Def P w K mg base "behind" 1 ["act", "state"] (sp_behind K A)) (D_may_be_done : Def P w K mg base "may_be_done" 1 ["act", "state"] (sp_may_be_done K A)) : Def P w K mg base "first_broken" 3 ["task", "clauses", "inside"] (sp_first_broken K A) := by
  obtain ⟨f_holds, fd_holds, g_holds, k_holds, b_holds, G_holds⟩ := D_holds
  obtain ⟨f_behind, fd_behind, g_behind, k_behind, b_behind, G_behind⟩ := D_behind
  obtain ⟨f_may_be_done, fd_may_be_done, g_may_be_done, k_may_be_done, b_may_be_done, G_may_be_done⟩ := D_may_be_done
  refine ⟨f, fd, hf, F.kp, F.binds (fun _ _ _ _ _ _ us hl => match us, hl with | [_, _, _], _ => rfl), F.ok sc_first_broken (fun vs H Q E h => ?_) (fun cdv A' outer s H vs Q E hr h => ?_)⟩
  · obtain ⟨Y, ⟨pt, t, pr, r, pm, m, rfl, ht, hw, hr', hm, rfl⟩, k⟩ := h
    rfl
  obtain ⟨Y, ⟨pt, t, pr, r, pm, m, rfl, ht, hw, hr', hm, rfl⟩, k⟩ := h
  refine ⟨_, (pss_cons (ps_for PassesOwn.never rfl (pi_enum (by rfl) T.b_enumerate (pa_cons (pv 1) pa_nil)) (pg_tupK (K := K) (n := 2) rfl rfl (pgs_cons (pg_name (i := 3) sc_first_broken.nd rfl (by first | exact Or.inl rfl | exact Or.inr rfl)) (pgs_cons (pg_name (i := 4) sc_first_broken.nd rfl (by first | exact Or.inl rfl | exact Or.inr rfl)) pgs_nil))) (pss_one (ps_for PassesOwn.never rfl (pi_enum (by rfl) T.b_enumerate (pa_cons (pe_fldK (K := K) rfl (pv 0) rfl) pa_nil)) (pg_tupK (K := K) (n := 2) rfl rfl (pgs_cons (pg_name (i := 5) sc_first_broken.nd rfl (by first | exact Or.inl rfl | exact Or.inr rfl)) (pgs_cons (pg_name (i := 6) sc_first_broken.nd rfl (by first | exact Or.inl rfl | exact Or.inr rfl)) pgs_nil))) (pss_one (ps_for PassesOwn.never rfl (pi_listK (K := K) rfl (pv 2)) (pg_name (i := 7) sc_first_broken.nd rfl (by first | exact Or.inl rfl | exact Or.inr rfl)) (pss_one (ps_if (PW.pt (pw_and (pt_val (pe_call G_may_be_done (hr.mono (by decide)) rfl g_may_be_done k_may_be_done b_may_be_done .nil pass0 (pa_cons (pv 6) (pa_cons (pv 7) pa_nil)))) (pw_and1 (pt_not (pt_val (pe_call G_holds (hr.mono (by decide)) rfl g_holds k_holds b_holds .nil pass0 (pa_cons (pv 4) (pa_cons (pe_call G_behind (hr.mono (by decide)) rfl g_behind k_behind b_behind .nil pass0 (pa_cons (pv 6) (pa_cons (pv 7) pa_nil))) pa_nil)))))))) (pss_one (ps_ret (pe_lst (pa_cons (pv 3) (pa_cons (pv 5) (pa_cons (pv 7) pa_nil)))))) pss_nil))))))) (pss_one (ps_ret pe_non))), ?_⟩
  obtain ⟨xs, hx, hxl, hxc⟩ := hr'
  obtain ⟨la, as, h2, h3, h4, h5⟩ := acts_at T ht
  refine q_forE (xs := xs) (ev_var rfl) hx (fun i σ' H' => ∃ o1 o2 o3 o4 o5 : Option V, σ' = [some (.ref pt), some (.ref pr), some (.ref pm), o1, o2, o3, o4, o5] ∧ Ex H H' ∧ ∀ j, j < i → brkI t r m j = none)
    (fun H1 e1 => ⟨none, none, none, none, none, rfl, e1, fun j hj => by omega⟩) (fun i σ' H' _ ⟨_, _, _, _, _, _, e, _⟩ => sq_of (e _ _ hx)) (fun i x σ' H' H'' hi ⟨o1, o2, o3, o4, o5, hσ, e1, hno⟩ e2 => ?_) (fun σ' H' ⟨o1, o2, o3, o4, o5, hσ, e1, hno⟩ => ?_)
  · subst hσ
    obtain ⟨c, pc, hc, rfl, hpc⟩ := row_at hxl hxc hi
    have hi' : i < r.length := (List.getElem?_eq_some_iff.mp hc).1
    have e12 := e1.trans e2
    refine s_forE (xs := as.map V.ref) ((h4 _ _ (ev_var rfl)).mono e12) (e12 _ _ h2) (fun j σ' H' => ∃ o3 o4 o5 : Option V, σ' = [some (.ref pt), some (.ref pr), some (.ref pm), some (natV i), some (.ref pc), o3, o4, o5] ∧ Ex H H' ∧ ∀ n, n < j → brkK t r m i n = none)
      (fun H3 e3 => ⟨o3, o4, o5, rfl, e12.trans e3, fun n hn => by omega⟩) (fun j σ' H' _ ⟨_, _, _, _, e, _⟩ => sq_of (e _ _ h2)) (fun j x σ' H' H'' hj ⟨o3, o4, o5, hσ, e3, hnk⟩ e4 => ?_) (fun σ' H' ⟨o3, o4, o5, hσ, e3, hnk⟩ => ?_)
    · subst hσ
      obtain ⟨a, act, rfl, ha, hact⟩ := h5 j x hj
      obtain ⟨hj', rfl⟩ := act_some ha
      have e34 := e3.trans e4
      refine s_forLn (xs := m.map natV) (ev_var rfl) (sq_of (e34 _ _ hm)) (fun n σ' H' => ∃ o5 : Option V, σ' = [some (.ref pt), some (.ref pr), some (.ref pm), some (natV i), some (.ref pc), some (natV j), some (.ref a), o5] ∧ Ex H H' ∧ ∀ (n' s' : Nat), n' < n → m[n']? = some s' → badC t r i j s' = false)
        (fun H5 e5 => ⟨o5, rfl, e34.trans e5, fun n' s' hn => by omega⟩) (fun n σ' H' _ ⟨_, _, e, _⟩ => sq_of (e _ _ hm)) (fun n x σ' H' hn ⟨o5, hσ, e5, hns⟩ => ?_) (fun σ' H' ⟨o5, hσ, e5, hns⟩ => ?_)
      · subst hσ
        obtain ⟨s, hs, rfl⟩ := nat_at hn
        have hbad : badC t r i j s = ((t.act j).may s && !Pn02.says ((t.act j).then_ s) c) := by
          unfold badC
          rw [can_eq hj', getD_at hc]
        refine s_when (b := badC t r i j s) (et_is (et_and (et_B (ev_call (ea_cons (ev_var rfl) (ea_cons (ev_var rfl) ea_nil)) (spv_may (hact.ex e5)))) (fun _ => et_not (et_B (ev_call (ea_cons (ev_var rfl) (ea_cons (ev_call (ea_cons (ev_var rfl) (ea_cons (ev_var rfl) ea_nil)) (spv_behind (hact.ex e5))) ea_nil)) (spv_holds (e5 _ _ hpc)))))) hbad.symm) (fun hb H6 e6 => ?_) (fun hb H6 e6 => ?_)
        · have hk : brk t r m = some (i, j, s) := by
            refine fsr_hit hi' (fsr_hit hj' ?_ hnk) hno
            unfold brkK
            rw [fd_hit hs hb fun n' s' h1 h2 => hns n' s' h1 h2]
            rfl
          exact s_retL (xs := [natV i, natV j, natV s]) (el_lst (ea_cons (ev_var rfl) (ea_cons (ev_var rfl) (ea_cons (ev_var rfl) ea_nil))) (by show 3 ≤ 100000; decide)) (fun q H7 hq e7 h7 => k _ H7 ((e5.trans e6).trans e7) (.inr ⟨q, _, hk, rfl, fresh_back (e5.trans e6) hq, h7⟩))
        · refine ⟨some (natV s), rfl, e5.trans e6, fun n' s' h1 h2 => ?_⟩
          by_cases z : n' < n
          · exact hns n' s' z h2
          · have z : n' = n := by omega
            subst z
            rw [hs] at h2
            cases (Option.some.inj h2)
            exact hb
      · subst hσ
        refine ⟨some (natV j), some (.ref a), o5, rfl, e5, fun n hn => ?_⟩
        by_cases z : n < j
        · exact hnk n z
        · have z : n = j := by omega
          subst z
          unfold brkK
          rw [fd_none fun n' s' h2 => hns n' s' (by rw [List.length_map]; exact (List.getElem?_eq_some_iff.mp h2).1) h2]
          rfl
    · subst hσ
      refine ⟨some (natV i), some (.ref pc), o3, o4, o5, rfl, e3, fun j hj => ?_⟩
      by_cases z : j < i
      · exact hno j z
      · have z : j = i := by omega
        subst z
        exact fsr_none fun n hn => hnk n (by rw [List.length_map, h3]; exact hn)
  · subst hσ
    refine s_ret ev_c (fun H2 e2 => k .non H2 (e1.trans e2) (.inl ⟨fsr_none fun j hj => hno j (by rw [hxl]; exact hj), rfl⟩))
def sp_clauses_check (_ : PySem.W.Frag) (A : Ad) : Sp := spL fun vs H xs => ∃ pt t pr r, vs = [.ref pt, .ref pr] ∧ TaskAt A H pt t ∧ WF t ∧ RowAt H pr r ∧ r.length ≤ 1000 ∧ xs = (faultL (Pn18.checkClauses t r)).map natV
theorem models_given (n : Nat) (r : List Clause) : given (2 ^ n) (fun s => r.all (Pn02.says s)) natV = (Pn02.models n r).map natV := rfl
theorem models_len (n : Nat) (r : List Clause) : (Pn02.models n r).length ≤ 2 ^ n := by
  have := List.length_filter_le (fun s => r.all (Pn02.says s)) (List.range (2 ^ n))
  rw [List.length_range] at this
  exact this
theorem d_clauses_check (T : Top K mg A) (F : Fun K "clauses_check" "clauses_check" s_clauses_check f fd) (hf : mg "clauses_check" = some (.ref f)) (D_as_wanted : Def P w K mg base "as_wanted" 1 ["task", "state"] (sp_as_wanted K A)) (D_first_broken : Def P w K mg base "first_broken" 3 ["task", "clauses", "inside"] (sp_first_broken K A)) (D_states_of : Def P w K mg base "states_of" 1 ["task"] (sp_states_of K A)) (D_holds : Def P w K mg base "holds" 2 ["clause", "state"] (sp_holds K A)) : Def P w K mg base "clauses_check" 4 ["task", "clauses"] (sp_clauses_check K A) := by
  obtain ⟨f_as_wanted, fd_as_wanted, g_as_wanted, k_as_wanted, b_as_wanted, G_as_wanted⟩ := D_as_wanted
  obtain ⟨f_first_broken, fd_first_broken, g_first_broken, k_first_broken, b_first_broken, G_first_broken⟩ := D_first_broken
  obtain ⟨f_states_of, fd_states_of, g_states_of, k_states_of, b_states_of, G_states_of⟩ := D_states_of
  obtain ⟨f_holds, fd_holds, g_holds, k_holds, b_holds, G_holds⟩ := D_holds
  refine ⟨f, fd, hf, F.kp, F.binds (fun _ _ _ _ _ _ us hl => match us, hl with | [_, _], _ => rfl), F.ok sc_clauses_check (fun vs H Q E h => ?_) (fun cdv A' outer s H vs Q E hr h => ?_)⟩
  · obtain ⟨z, ⟨pt, t, pr, r, rfl, ht, hw, hr', hz, rfl⟩, k⟩ := h
    rfl
  obtain ⟨z, ⟨pt, t, pr, r, rfl, ht, hw, hr', hz, rfl⟩, k⟩ := h
  refine ⟨_, (pss_cons (ps_for PassesOwn.never rfl (pi_enum (by rfl) T.b_enumerate (pa_cons (pv 1) pa_nil)) (pg_tupK (K := K) (n := 2) rfl rfl (pgs_cons (pg_name (i := 2) sc_clauses_check.nd rfl (by first | exact Or.inl rfl | exact Or.inr rfl)) (pgs_cons (pg_name (i := 3) sc_clauses_check.nd rfl (by first | exact Or.inl rfl | exact Or.inr rfl)) pgs_nil))) (pss_one (ps_if (pt_not (pt_val (pe_call G_holds (hr.mono (by decide)) rfl g_holds k_holds b_holds .nil pass0 (pa_cons (pv 3) (pa_cons (pe_fldK (K := K) rfl (pv 0) rfl) pa_nil))))) (pss_one (ps_ret (pe_lst (pa_cons pe_int (pa_cons (pv 2) pa_nil))))) pss_nil))) (pss_cons (ps_setLc (i := 4) (own := [("state", 5)]) rfl sc_clauses_check.nd rfl rfl (sw_true rfl rfl rfl (by decide +kernel)) (pi_listK (K := K) rfl (pe_call G_states_of (hr.mono (by decide)) rfl g_states_of k_states_of b_states_of .nil pass0 (pa_cons (pv 0) pa_nil))) (blkOk_by (N := N_clauses_check) (sc := defScope (top 18)) (by decide +kernel)) (fun _ _ _ _ _ => (pg_name (i := 5) sc_clauses_check.nd rfl (by first | exact Or.inl rfl | exact Or.inr rfl))) (fun _ _ _ _ _ => (pts_one (pt_val (pe_callB (cr_allK (K := K) rfl rfl) (by rfl) T.b_all (by decide +kernel) (pa_cons (pe_lc (own := [("clause", 3)]) rfl sc_clauses_check.nd (pi_listK (K := K) rfl (pv 1)) (blkOk_by (N := N_clauses_check) (sc := relS _ (defScope (top 18))) (by decide +kernel)) (fun _ _ _ _ _ => (pg_name (i := 3) sc_clauses_check.nd rfl (by first | exact Or.inl rfl | exact Or.inr rfl))) (fun _ _ _ _ _ => pts_nil) (fun _ _ _ _ _ => (pe_call G_holds (hr.mono (by decide)) rfl g_holds k_holds b_holds .nil pass0 (pa_cons (pv 3) (pa_cons (pv 5) pa_nil))))) pa_nil))))) (fun _ _ _ _ _ => (pv 5))) (pss_cons (ps_set (i := 6) sc_clauses_check.nd rfl (by first | exact Or.inl rfl | exact Or.inr rfl) (pe_call G_first_broken (hr.mono (by decide)) rfl g_first_broken k_first_broken b_first_broken .nil pass0 (pa_cons (pv 0) (pa_cons (pv 1) (pa_cons (pv 4) pa_nil))))) (pss_cons (ps_if (pt_cmpR op_notN (pv 6) pe_non (nomark _)) (pss_one (ps_ret (pe_op op_cat (pe_lst (pa_cons pe_int pa_nil)) (pv 6)))) pss_nil) (pss_cons (ps_for PassesOwn.never rfl (pi_listK (K := K) rfl (pv 4)) (pg_name (i := 5) sc_clauses_check.nd rfl (by first | exact Or.inl rfl | exact Or.inr rfl)) (pss_one (ps_if (pt_val (pe_call G_as_wanted (hr.mono (by decide)) rfl g_as_wanted k_as_wanted b_as_wanted .nil pass0 (pa_cons (pv 0) (pa_cons (pv 5) pa_nil)))) (pss_one (ps_ret (pe_lst (pa_cons pe_int (pa_cons (pv 5) pa_nil))))) pss_nil))) (pss_one (ps_ret (pe_lst (pa_cons pe_int pa_nil))))))))), ?_⟩
  have hp16 := hw.lt16
  have hrow := hr'
  obtain ⟨xs, hx, hxl, hxc⟩ := hr'
  rw [checkClauses_eq] at k
  refine q_forE (xs := xs) (ev_var rfl) hx (fun i σ' H' => ∃ o1 o2 : Option V, σ' = [some (.ref pt), some (.ref pr), o1, o2, none, none, none] ∧ Ex H H' ∧ ∀ j, j < i → (!Pn02.says t.start (r.getD j (0, 0))) = false)
    (fun H1 e1 => ⟨none, none, rfl, e1, fun j hj => by omega⟩) (fun i σ' H' _ ⟨_, _, _, e, _⟩ => sq_of (e _ _ hx)) (fun i x σ' H' H'' hi ⟨o1, o2, hσ, e1, hno⟩ e2 => ?_) (fun σ' H' ⟨o1, o2, hσ, e1, hno⟩ => ?_)
  · subst hσ
    obtain ⟨c, pc, hc, rfl, hpc⟩ := row_at hxl hxc hi
    have hi' : i < r.length := (List.getElem?_eq_some_iff.mp hc).1
    have e12 := e1.trans e2
    refine s_when (b := !Pn02.says t.start c) (et_not (et_B (ev_call (ea_cons (ev_var rfl) (ea_cons (ev_so T (ht.mono e12) (ev_var rfl)) ea_nil)) (spv_holds (e12 _ _ hpc))))) (fun hb H3 e3 => ?_) (fun hb H3 e3 => ?_)
    · have hf : firstBad t r = some i := fdr_hit hi' (by rw [getD_at hc]; exact hb) hno
      rw [hf] at k
      exact s_retL (xs := [natV 1, natV i]) (el_lst (ea_cons ev_c (ea_cons (ev_var rfl) ea_nil)) (by show 2 ≤ 100000; decide)) (fun q H4 hq e4 h4 => k q H4 (fresh_back (e12.trans e3) hq) ((e12.trans e3).trans e4) h4)
    · refine ⟨some (natV i), some (.ref pc), rfl, e12.trans e3, fun j hj => ?_⟩
      by_cases q : j < i
      · exact hno j q
      · have q : j = i := by omega
        subst q
        rw [getD_at hc]
        exact hb
  · subst hσ
    have hf : firstBad t r = none := fdr_none fun j hj => hno j (by rw [hxl]; exact hj)
    rw [hf] at k
    have hl : ((List.range (2 ^ t.facts)).map natV).length = 2 ^ t.facts := by rw [List.length_map, List.length_range]
    refine q_asgL (xs := (Pn02.models t.facts r).map natV) ?_ (fun pm H2 hpm e2 hm => ?_)
    · rw [← models_given, ← hl]
      refine el_lcNL (xs := (List.range (2 ^ t.facts)).map natV) _ _ (el_call (ea_cons (ev_var rfl) ea_nil) (spl_states (ht.mono e1) hw.f4)) (by rw [hl]; omega) (fun _ => rfl) (fun i x H3 e3 hi => ?_) (fun i x H3 e3 hi _ => ?_)
      · have hi2 : i < 2 ^ t.facts := by rw [← hl]; exact (List.getElem?_eq_some_iff.mp hi).1
        rw [List.getElem?_map, List.getElem?_range hi2] at hi
        cases (Option.some.inj hi)
        refine et_is (et_B (ev_all (bs := r.map (Pn02.says i)) (el_map (by rw [List.length_map, List.length_map, hxl]) (ev_var rfl) (e3 _ _ (e1 _ _ hx)) (by omega) (fun _ => rfl) (fun j y z H4 e4 hy hz2 => ?_)))) (by rw [List.all_map]; rfl)
        obtain ⟨c, q, hc, rfl, hq⟩ := row_at hxl hxc hy
        rw [List.getElem?_map, List.getElem?_map, hc] at hz2
        cases (Option.some.inj hz2)
        exact ev_call (ea_cons (ev_var rfl) (ea_cons (ev_var rfl) ea_nil)) (spv_holds (e4 _ _ (e3 _ _ (e1 _ _ hq))))
      · have hi2 : i < 2 ^ t.facts := by rw [← hl]; exact (List.getElem?_eq_some_iff.mp hi).1
        rw [List.getElem?_map, List.getElem?_range hi2] at hi
        cases (Option.some.inj hi)
        exact ev_var rfl
    have e12 := e1.trans e2
    refine q_asgP (Y := brkV H2 (brk t r (Pn02.models t.facts r))) (ep_call (ea_cons (ev_var rfl) (ea_cons (ev_var rfl) (ea_cons (ev_var rfl) ea_nil))) (fun H3 e3 Q q E => ⟨_, ⟨pt, t, pr, r, pm, _, rfl, ht.mono (e12.trans e3), hw, hrow.ex (e12.trans e3), e3 _ _ hm, rfl⟩, fun v H4 e4 y => q v H4 e4 (y.back e3)⟩)) (fun v H3 e3 hY => ?_)
    have e13 := e12.trans e3
    rcases hY with ⟨hn, rfl⟩ | ⟨q, x, hn, rfl, hq, h3⟩
    · rw [hn] at k
      refine q_when (b := false) (et_is (et_test (ev_notN (x := .non) (ev_var rfl))) rfl) (fun hb => by cases hb) (fun _ H4 e4 => ?_)
      have e14 := e13.trans e4
      have hm4 := e4 _ _ (e3 _ _ hm)
      refine q_forLn (xs := (Pn02.models t.facts r).map natV) (ev_var rfl) (sq_of hm4) (fun i σ' H' => ∃ o : Option V, σ' = [some (.ref pt), some (.ref pr), o1, o2, some (.ref pm), o, some .non] ∧ Ex H4 H' ∧ ∀ (j s : Nat), j < i → (Pn02.models t.facts r)[j]? = some s → t.done s = false)
        (fun H5 e5 => ⟨none, rfl, e5, fun j s hj => by omega⟩) (fun i σ' H' _ ⟨_, _, e, _⟩ => sq_of (e _ _ hm4)) (fun i x σ' H' hi ⟨o, hσ, e5, hns⟩ => ?_) (fun σ' H' ⟨o, hσ, e5, hns⟩ => ?_)
      · subst hσ
        obtain ⟨s, hs, rfl⟩ := nat_at hi
        refine s_when (b := t.done s) (et_B (ev_call (ea_cons (ev_var rfl) (ea_cons (ev_var rfl) ea_nil)) (spv_wanted (ht.mono (e14.trans e5))))) (fun hb H6 e6 => ?_) (fun hb H6 e6 => ?_)
        · have hd : (Pn02.models t.facts r).find? t.done = some s := fd_hit hs hb fun j x h1 h2 => hns j x h1 h2
          rw [hd] at k
          exact s_retL (xs := [natV 3, natV s]) (el_lst (ea_cons ev_c (ea_cons (ev_var rfl) ea_nil)) (by show 2 ≤ 100000; decide)) (fun q H7 hq e7 h7 => k q H7 (fresh_back ((e14.trans e5).trans e6) hq) (((e14.trans e5).trans e6).trans e7) h7)
        · refine ⟨some (natV s), rfl, e5.trans e6, fun j x h1 h2 => ?_⟩
          by_cases q : j < i
          · exact hns j x q h2
          · have q : j = i := by omega
            subst q
            rw [hs] at h2
            cases (Option.some.inj h2)
            exact hb
      · subst hσ
        have hd : (Pn02.models t.facts r).find? t.done = none := fd_none fun j x h2 => hns j x (by rw [List.length_map]; exact (List.getElem?_eq_some_iff.mp h2).1) h2
        rw [hd] at k
        exact s_retL (xs := [natV 0]) (el_lst (ea_cons ev_c ea_nil) (by show 1 ≤ 100000; decide)) (fun q H7 hq e7 h7 => k q H7 (fresh_back (e14.trans e5) hq) ((e14.trans e5).trans e7) h7)
    · rw [hn] at k
      refine q_when (b := true) (et_is (et_test (ev_notN (x := .ref q) (ev_var rfl))) rfl) (fun _ H4 e4 => ?_) (fun hb => by cases hb)
      exact s_retL (xs := [natV 2] ++ [natV x.1, natV x.2.1, natV x.2.2]) (el_catV (q := q) (el_lst (ea_cons ev_c ea_nil) (by show 1 ≤ 100000; decide)) (ev_var rfl) (e4 _ _ h3) (by show 1 + 3 ≤ 100000; decide)) (fun q H7 hq e7 h7 => k q H7 (fresh_back (e13.trans e4) hq) ((e13.trans e4).trans e7) h7)
end
end PC

set_option Elab.async false
set_option linter.all false
set_option maxRecDepth 100000
set_option maxHeartbeats 2000000
namespace PC
open PySem PySem.Spec PyProof.Rows L2 Evl
open Pn02 (Clause)
section
variable {P : Program} {w : World} {K : PySem.W.Frag} {mg : Str → Option Value} {base : Heap} {A : Ad} {f : Addr} {fd : FuncData}
/-! ### clauses, in order -/
abbrev s_clauses_in_order : Stmt := top 21
abbrev N_clauses_in_order : List Str := ["facts", "clauses", "lower", "other"]
theorem sc_clauses_in_order : FnScope N_clauses_in_order ["facts"] (defScope s_clauses_in_order) := ⟨rfl, rfl, rfl, by decide +kernel, rfl, by decide +kernel, by decide +kernel⟩
abbrev s_rows_in_order : Stmt := top 22
abbrev N_rows_in_order : List Str := ["facts", "clauses", "rows", "clause", "place", "later"]
theorem sc_rows_in_order : FnScope N_rows_in_order ["facts"] (defScope s_rows_in_order) := ⟨rfl, rfl, rfl, by decide +kernel, rfl, by decide +kernel, by decide +kernel⟩
abbrev s_find_clauses : Stmt := top 23
abbrev N_find_clauses : List Str := ["task", "row"]
theorem sc_find_clauses : FnScope N_find_clauses ["task"] (defScope s_find_clauses) := ⟨rfl, rfl, rfl, by decide +kernel, rfl, by decide +kernel, by decide +kernel⟩
/-- the lower literal a, the other from a on -/
def okPair (a b : Nat) : Bool := !(a / 2 == b / 2) || a == b
def clSub (a j : Nat) : List Clause := ((List.range j).filter fun b => okPair a (a + b)).map fun b => (a, a + b)
def clAll (n i : Nat) : List Clause := (List.range i).flatMap fun a => clSub a (2 * n - a)
theorem clSub_succ (a j : Nat) : clSub a (j + 1) = if okPair a (a + j) = true then clSub a j ++ [(a, a + j)] else clSub a j := by
  unfold clSub
  rw [List.range_succ, List.filter_append, List.map_append]
  by_cases c : okPair a (a + j) = true
  · rw [if_pos c, List.filter_cons_of_pos (p := fun b => okPair a (a + b)) c]
    rfl
  · rw [if_neg c, List.filter_cons_of_neg (p := fun b => okPair a (a + b)) c]
    show _ ++ [] = _
    rw [List.append_nil]
theorem clAll_succ (n i : Nat) : clAll n (i + 1) = clAll n i ++ clSub i (2 * n - i) := by
  unfold clAll
  rw [List.range_succ, List.flatMap_append]
  show _ ++ (clSub i (2 * n - i) ++ []) = _
  rw [List.append_nil]
theorem clAll_eq {n : Nat} (h1 : 1 ≤ n) (h4 : n ≤ 4) : clAll n (2 * n) = Pn02.clauses n := by
  have : n = 1 ∨ n = 2 ∨ n = 3 ∨ n = 4 := by omega
  rcases this with rfl | rfl | rfl | rfl <;> decide +kernel
theorem clSub_len (a j : Nat) : (clSub a j).length ≤ j := by
  unfold clSub
  rw [List.length_map]
  have := List.length_filter_le (fun b => okPair a (a + b)) (List.range j)
  rw [List.length_range] at this
  exact this
theorem clAll_len (n : Nat) : ∀ i, (clAll n i).length ≤ i * (2 * n)
  | 0 => Nat.zero_le _
  | i + 1 => by
    rw [clAll_succ, List.length_append, Nat.add_mul]
    have := clAll_len n i
    have := clSub_len i (2 * n - i)
    omega
theorem RowAt.push {H H1 : Hp} {pl p : Addr} {xs : List V} {r : List Clause} {c : Clause} (h1 : H pl = some (.lst xs)) (h2 : xs.length = r.length) (h3 : ∀ (i : Nat) (c : Clause), r[i]? = some c → ∃ x, xs[i]? = some x ∧ ClauseAt H x c) (e : Ex H H1)
    (hp : H1 p = some (.tup [natV c.1, natV c.2])) : RowAt (upd H1 pl (.lst (xs ++ [.ref p]))) pl (r ++ [c]) := by
  have ne : ∀ q ys, H1 q = some (.tup ys) → q ≠ pl := fun q ys hq z => by
    rw [z, e _ _ h1] at hq
    cases hq
  refine ⟨xs ++ [.ref p], upd_same, by rw [List.length_append, List.length_append, h2]; rfl, fun i d hd => ?_⟩
  by_cases k : i < r.length
  · rw [List.getElem?_append_left k] at hd
    obtain ⟨x, g1, q, g2, g3⟩ := h3 i d hd
    refine ⟨x, by rw [List.getElem?_append_left (by rw [h2]; exact k)]; exact g1, q, g2, ?_⟩
    rw [upd_ne (ne q _ (e _ _ g3))]
    exact e _ _ g3
  · rw [List.getElem?_append_right (by omega)] at hd
    have e0 : i - r.length = 0 := by
      have := (List.getElem?_eq_some_iff.mp hd).1
      rw [List.length_singleton] at this
      omega
    rw [e0] at hd
    cases (Option.some.inj hd)
    refine ⟨.ref p, ?_, p, rfl, ?_⟩
    · rw [List.getElem?_append_right (by rw [h2]; omega), h2, e0]
      rfl
    · rw [upd_ne (ne p _ hp)]
      exact hp
def sp_clauses_in_order (_ : PySem.W.Frag) (_ : Ad) : Sp := spP fun vs H Y => ∃ n, vs = [natV n] ∧ 1 ≤ n ∧ n ≤ 4 ∧ Y = fun v H2 => ∃ p, v = .ref p ∧ H p = none ∧ RowAt H2 p (Pn02.clauses n)
theorem ev_fdiv2 {σ : L2.St} {H : Hp} {ta : TE} {n : Nat} (ha : Ev ta σ H (natV n)) : Ev (tOp (rI CDivN fun i j => .int (i.fdiv j)) ta (tC (.int 2))) σ H (natV (n / 2)) := by
  refine ev_is (ev_op ha ev_c (rv_I ⟨by decide, by decide⟩)) ?_
  show V.int ((n : Int).fdiv 2) = _
  rw [Int.fdiv_eq_ediv_of_nonneg _ (by decide)]
  rfl
theorem ev_neN {σ : L2.St} {H : Hp} {ta tb : TE} {a b : Nat} (ha : Ev ta σ H (.int (a : Int))) (hb : Ev tb σ H (.int (b : Int))) : Ev (tOp rNe ta tb) σ H (.bl (!(a == b))) := by
  rw [← int_eq_nat]
  exact ev_op ha hb (rv_ne rfl)
theorem ev_dbl {σ : L2.St} {H : Hp} {tb : TE} {n : Nat} (hn : n ≤ 1000) (hb : Ev tb σ H (natV n)) : Ev (tOp (rI CMul fun i j => .int (i * j)) (tC (.int 2)) tb) σ H (natV (2 * n)) := by
  refine ev_is (ev_op ev_c hb (rv_I (.inl ⟨by decide, by decide⟩))) ?_
  show V.int (2 * (n : Int)) = V.int ((2 * n : Nat) : Int)
  rw [Int.natCast_mul]
  rfl
theorem d_clauses_in_order (T : Top K mg A) (F : Fun K "clauses_in_order" "clauses_in_order" s_clauses_in_order f fd) (hf : mg "clauses_in_order" = some (.ref f))  : Def P w K mg base "clauses_in_order" 1 ["facts"] (sp_clauses_in_order K A) := by
  refine ⟨f, fd, hf, F.kp, F.binds (fun _ _ _ _ _ _ us hl => match us, hl with | [_], _ => rfl), F.ok sc_clauses_in_order (fun vs H Q E h => ?_) (fun cdv A' outer s H vs Q E hr h => ?_)⟩
  · obtain ⟨Y, ⟨n, rfl, hn1, hn4, rfl⟩, k⟩ := h
    rfl
  obtain ⟨Y, ⟨n, rfl, hn1, hn4, rfl⟩, k⟩ := h
  refine ⟨_, (pss_cons (ps_set (i := 1) sc_clauses_in_order.nd rfl (by first | exact Or.inl rfl | exact Or.inr rfl) (pe_lst pa_nil)) (pss_cons (ps_for PassesOwn.never rfl (pi_range1 rfl T.b_range (pa_cons (pe_op op_mul pe_int (pv 0)) pa_nil)) (pg_name (i := 2) sc_clauses_in_order.nd rfl (by first | exact Or.inl rfl | exact Or.inr rfl)) (pss_one (ps_for PassesOwn.never rfl (pi_range2 rfl T.b_range (pa_cons (pv 2) (pa_cons (pe_op op_mul pe_int (pv 0)) pa_nil))) (pg_name (i := 3) sc_clauses_in_order.nd rfl (by first | exact Or.inl rfl | exact Or.inr rfl)) (pss_one (ps_if (PW.pt (pw_or (pt_cmpR op_ne (pe_op op_fdivN (pv 2) pe_int) (pe_op op_fdivN (pv 3) pe_int) (nomark _)) (pw_or1 (pt_cmpR op_eq (pv 2) (pv 3) (nomark _))))) (pss_one (ps_expr (pe_bm PySem.F.plainAttrs_list PySem.F.slot_list_append PySem.F.type_list_append mt_append (pv 1) (pa_cons (pe_tup (pa_cons (pv 2) (pa_cons (pv 3) pa_nil))) pa_nil)))) pss_nil))))) (pss_one (ps_ret (pv 1))))), ?_⟩
  refine q_asgL (xs := []) (el_lst ea_nil (by decide)) (fun pl H1 hpl e1 hl => ?_)
  have r0 : RowAt H1 pl (clAll n 0) := ⟨[], hl, rfl, fun i c hc => by cases hc⟩
  refine q_forR1 (n := ((2 * n : Nat) : Int)) (ea_cons (ev_dbl (by omega) (ev_var rfl)) ea_nil) (by omega) (fun i σ' H' => ∃ o1 o2 : Option V, σ' = [some (natV n), some (.ref pl), o1, o2] ∧ Ex H H' ∧ RowAt H' pl (clAll n i)) (fun H2 e2 => ⟨none, none, rfl, e1.trans e2, r0.ex e2⟩) (fun i σ' H' hi ⟨o1, o2, hσ, e, r⟩ => ?_) (fun σ' H' ⟨o1, o2, hσ, e, r⟩ => ?_)
  · subst hσ
    have hi : i < 2 * n := by omega
    refine s_forR2 (lo := (i : Int)) (n := ((2 * n : Nat) : Int)) (ea_cons (ev_var rfl) (ea_cons (ev_dbl (by omega) (ev_var rfl)) ea_nil)) (by omega) (fun j σ' H' => ∃ o2 : Option V, σ' = [some (natV n), some (.ref pl), some (natV i), o2] ∧ Ex H H' ∧ RowAt H' pl (clAll n i ++ clSub i j)) (fun H2 e2 => ⟨o2, rfl, e.trans e2, by
      show RowAt H2 pl (clAll n i ++ [])
      rw [List.append_nil]
      exact r.ex e2⟩) (fun j σ' H' hj ⟨o2, hσ, e, r⟩ => ?_) (fun σ' H' ⟨o2, hσ, e, r⟩ => ?_)
    · subst hσ
      have ej : ((i : Int) + (j : Int)) = ((i + j : Nat) : Int) := (Int.natCast_add i j).symm
      rw [ej]
      refine s_when (b := okPair i (i + j)) (et_or (et_test (ev_neN (a := i / 2) (b := (i + j) / 2) (ev_fdiv2 (ev_var rfl)) (ev_fdiv2 (ev_var rfl)))) (fun _ => et_test (ev_eqN (a := i) (b := i + j) (ev_var rfl) (ev_var rfl)))) (fun hb H2 e2 => ?_) (fun hb H2 e2 => ?_)
      · obtain ⟨xs, h1, h2, h3⟩ := r.ex e2
        have hlen : xs.length < 100000 := by
          rw [h2, List.length_append]
          have a := clAll_len n i
          have b := clSub_len i j
          have c : i * (2 * n) ≤ 8 * 8 := Nat.mul_le_mul (by omega) (by omega)
          omega
        refine s_appU (xs := xs) h1 (ev_var rfl) (eu_tup (vs := [natV i, natV (i + j)]) (ea_cons (ev_var rfl) (ea_cons (ev_var rfl) ea_nil)) (by show 2 ≤ 100000; decide)) hlen (fun p H3 hp e3 h4 => ⟨some (natV (i + j)), rfl, Ex.mut ((e.trans e2).trans e3) hpl, ?_⟩)
        rw [clSub_succ, if_pos hb, ← List.append_assoc]
        exact RowAt.push h1 h2 h3 e3 h4
      · refine ⟨some (natV (i + j)), rfl, e.trans e2, ?_⟩
        rw [clSub_succ, if_neg (by rw [hb]; decide)]
        exact r.ex e2
    · subst hσ
      refine ⟨some (natV i), o2, rfl, e, ?_⟩
      rw [clAll_succ]
      have ej : (((2 * n : Nat) : Int) - (i : Int)).toNat = 2 * n - i := by omega
      rw [ej] at r
      exact r
  · subst hσ
    rw [Int.toNat_natCast, clAll_eq hn1 hn4] at r
    exact s_ret (ev_var rfl) (fun H2 e2 => k _ _ (e.trans e2) ⟨pl, rfl, hpl, r.ex e2⟩)
end
end PC

set_option Elab.async false
set_option linter.all false
set_option maxRecDepth 100000
set_option maxHeartbeats 2000000
namespace PC
open PySem PySem.Spec PyProof.Rows L2 Evl
open Pn02 (Clause)
/-! ### two lists, item by item -/
inductive F2 {α β : Type} (R : α → β → Prop) : List α → List β → Prop
  | nil : F2 R [] []
  | cons {a : α} {b : β} {l : List α} {m : List β} : R a b → F2 R l m → F2 R (a :: l) (b :: m)
section
variable {α β γ δ : Type} {R : α → β → Prop} {S : γ → δ → Prop}
theorem F2.len {l : List α} {m : List β} (h : F2 R l m) : l.length = m.length := by
  induction h with
  | nil => rfl
  | cons _ _ ih => rw [List.length_cons, List.length_cons, ih]
theorem F2.get {l : List α} {m : List β} (h : F2 R l m) : ∀ {i : Nat} {b : β}, m[i]? = some b → ∃ a, l[i]? = some a ∧ R a b := by
  induction h with
  | nil => intro i b hb; simp at hb
  | cons r _ ih =>
    intro i b hb
    cases i with
    | zero =>
      cases (Option.some.inj hb)
      exact ⟨_, rfl, r⟩
    | succ i => exact ih (i := i) hb
theorem F2.of : ∀ {l : List α} {m : List β}, l.length = m.length → (∀ (i : Nat) (b : β), m[i]? = some b → ∃ a, l[i]? = some a ∧ R a b) → F2 R l m
  | [], [], _, _ => .nil
  | [], b :: m, h, _ => by cases h
  | a :: l, [], h, _ => by cases h
  | a :: l, b :: m, h, g => by
    obtain ⟨x, hx, r⟩ := g 0 b rfl
    cases (Option.some.inj hx)
    exact .cons r (F2.of (by simpa using h) fun i c hc => g (i + 1) c hc)
theorem F2.map {f : α → γ} {g : β → δ} {l : List α} {m : List β} (h : F2 R l m) (i : ∀ a b, R a b → S (f a) (g b)) : F2 S (l.map f) (m.map g) := by
  induction h with
  | nil => exact .nil
  | cons r _ ih => exact .cons (i _ _ r) ih
theorem F2.app {l l' : List α} {m m' : List β} (h : F2 R l m) (g : F2 R l' m') : F2 R (l ++ l') (m ++ m') := by
  induction h with
  | nil => exact g
  | cons r _ ih => exact .cons r ih
theorem F2.imp {R' : α → β → Prop} {l : List α} {m : List β} (h : F2 R l m) (i : ∀ a b, R a b → R' a b) : F2 R' l m := by
  induction h with
  | nil => exact .nil
  | cons r _ ih => exact .cons (i _ _ r) ih
end
def pairsV : List V → List (List V)
  | [] => []
  | c :: l => l.map (fun d => [c, d]) ++ pairsV l
def rowsV (l : List V) : List (List V) := [[]] ++ l.map (fun c => [c]) ++ pairsV l
theorem f2_pairs {R : V → Clause → Prop} {xs : List V} {r : List Clause} (h : F2 R xs r) : F2 (F2 R) (pairsV xs) (pairs2 r) := by
  induction h with
  | nil => exact .nil
  | cons q g ih => exact F2.app (g.map fun a b s => .cons q (.cons s .nil)) ih
theorem f2_rows {R : V → Clause → Prop} {xs : List V} {r : List Clause} (h : F2 R xs r) : F2 (F2 R) (rowsV xs) (rows r) := F2.app (F2.app (.cons .nil .nil) (h.map fun a b s => .cons s .nil)) (f2_pairs h)
theorem pairsV_range : ∀ xs : List V, pairsV xs = (List.range xs.length).flatMap fun k => (xs.drop (k + 1)).map fun y => [xs.getD k .non, y]
  | [] => rfl
  | x :: l => by
    rw [List.length_cons, List.range_succ_eq_map, List.flatMap_cons, List.flatMap_map]
    show l.map (fun d => [x, d]) ++ pairsV l = _
    rw [pairsV_range l]
    rfl
def rowsUp (xs : List V) (i : Nat) : List (List V) := [[]] ++ xs.map (fun c => [c]) ++ (List.range i).flatMap fun k => (xs.drop (k + 1)).map fun y => [xs.getD k .non, y]
theorem rowsUp_all (xs : List V) : rowsUp xs xs.length = rowsV xs := by
  unfold rowsUp rowsV
  rw [pairsV_range]
theorem rowsUp_succ (xs : List V) (i : Nat) : rowsUp xs (i + 1) = rowsUp xs i ++ (xs.drop (i + 1)).map fun y => [xs.getD i .non, y] := by
  unfold rowsUp
  rw [List.range_succ, List.flatMap_append, ← List.append_assoc]
  show _ ++ (_ ++ []) = _
  rw [List.append_nil]
theorem rowsUp_len (xs : List V) : ∀ i, (rowsUp xs i).length ≤ 1 + xs.length + i * xs.length
  | 0 => by
    unfold rowsUp
    simp
    omega
  | i + 1 => by
    have := rowsUp_len xs i
    rw [rowsUp_succ, List.length_append, List.length_map, List.length_drop, Nat.add_mul]
    omega
section
variable {P : Program} {w : World} {K : PySem.W.Frag} {mg : Str → Option Value} {base : Heap} {A : Ad} {f : Addr} {fd : FuncData}
theorem RowAt.f2 {H : Hp} {p : Addr} {r : List Clause} (h : RowAt H p r) : ∃ xs, H p = some (.lst xs) ∧ F2 (ClauseAt H) xs r := by
  obtain ⟨xs, h1, h2, h3⟩ := h
  exact ⟨xs, h1, F2.of h2 h3⟩
theorem RowAt.of2 {H : Hp} {p : Addr} {xs : List V} {r : List Clause} (h : H p = some (.lst xs)) (g : F2 (ClauseAt H) xs r) : RowAt H p r := ⟨xs, h, g.len, fun i c hc => g.get hc⟩
/-- rows of clauses -/
def RowsAt (H : Hp) (p : Addr) (rs : List (List Clause)) : Prop := ∃ ys : List V, H p = some (.lst ys) ∧ ys.length = rs.length ∧ ∀ (i : Nat) (r : List Clause), rs[i]? = some r → ∃ q, ys[i]? = some (.ref q) ∧ RowAt H q r
theorem RowsAt.of {H : Hp} {p : Addr} {ys : List V} {cs : List (List V)} {rs : List (List Clause)} (h : H p = some (.lst ys)) (l : ListsAt H ys cs) (g : F2 (F2 (ClauseAt H)) cs rs) : RowsAt H p rs := ⟨ys, h, l.1.trans g.len, fun i r hr => by
  obtain ⟨c, hc, q⟩ := g.get hr
  obtain ⟨p, h1, h2⟩ := l.2 i c hc
  exact ⟨p, h1, RowAt.of2 h2 q⟩⟩
theorem f2_ex {H H' : Hp} (e : Ex H H') {xs : List V} {r : List Clause} (h : F2 (ClauseAt H) xs r) : F2 (ClauseAt H') xs r := h.imp fun _ _ q => q.ex e
theorem clauses_len {n : Nat} (h1 : 1 ≤ n) (h4 : n ≤ 4) : (Pn02.clauses n).length ≤ 64 := by
  rw [← clAll_eq h1 h4]
  have := clAll_len n (2 * n)
  have c : 2 * n * (2 * n) ≤ 8 * 8 := Nat.mul_le_mul (by omega) (by omega)
  omega
def sp_rows_in_order (_ : PySem.W.Frag) (_ : Ad) : Sp := spP fun vs H Y => ∃ n, vs = [natV n] ∧ 1 ≤ n ∧ n ≤ 4 ∧ Y = fun v H2 => ∃ p, v = .ref p ∧ H p = none ∧ RowsAt H2 p (rows (Pn02.clauses n))
theorem cut_from (xs : List V) (i : Nat) : cutV xs (some ((i + 1 : Nat) : Int)) none = xs.drop (i + 1) := by
  unfold cutV
  rw [HT.sIx_nat, HT.sIx_none]
  by_cases h : i + 1 ≤ xs.length
  · rw [Nat.min_eq_left h, List.take_of_length_le]
    rw [List.length_drop]
    exact Nat.le_refl _
  · rw [Nat.min_eq_right (by omega), List.drop_eq_nil_of_le (Nat.le_refl _), List.drop_eq_nil_of_le (by omega)]
    simp
theorem d_rows_in_order (T : Top K mg A) (F : Fun K "rows_in_order" "rows_in_order" s_rows_in_order f fd) (hf : mg "rows_in_order" = some (.ref f)) (D_clauses_in_order : Def P w K mg base "clauses_in_order" 1 ["facts"] (sp_clauses_in_order K A)) : Def P w K mg base "rows_in_order" 2 ["facts"] (sp_rows_in_order K A) := by
  obtain ⟨f_clauses_in_order, fd_clauses_in_order, g_clauses_in_order, k_clauses_in_order, b_clauses_in_order, G_clauses_in_order⟩ := D_clauses_in_order
  refine ⟨f, fd, hf, F.kp, F.binds (fun _ _ _ _ _ _ us hl => match us, hl with | [_], _ => rfl), F.ok sc_rows_in_order (fun vs H Q E h => ?_) (fun cdv A' outer s H vs Q E hr h => ?_)⟩
  · obtain ⟨Y, ⟨n, rfl, hn1, hn4, rfl⟩, k⟩ := h
    rfl
  obtain ⟨Y, ⟨n, rfl, hn1, hn4, rfl⟩, k⟩ := h
  refine ⟨_, (pss_cons (ps_set (i := 1) sc_rows_in_order.nd rfl (by first | exact Or.inl rfl | exact Or.inr rfl) (pe_call G_clauses_in_order (hr.mono (by decide)) rfl g_clauses_in_order k_clauses_in_order b_clauses_in_order .nil pass0 (pa_cons (pv 0) pa_nil))) (pss_cons (ps_set (i := 2) sc_rows_in_order.nd rfl (by first | exact Or.inl rfl | exact Or.inr rfl) (pe_op op_cat (pe_lst (pa_cons (pe_lst pa_nil) pa_nil)) (pe_lc (own := [("clause", 3)]) rfl sc_rows_in_order.nd (pi_listK (K := K) rfl (pv 1)) (blkOk_by (N := N_rows_in_order) (sc := defScope (top 22)) (by decide +kernel)) (fun _ _ _ _ _ => (pg_name (i := 3) sc_rows_in_order.nd rfl (by first | exact Or.inl rfl | exact Or.inr rfl))) (fun _ _ _ _ _ => pts_nil) (fun _ _ _ _ _ => (pe_lst (pa_cons (pv 3) pa_nil)))))) (pss_cons (ps_for PassesOwn.never rfl (pi_enum (by rfl) T.b_enumerate (pa_cons (pv 1) pa_nil)) (pg_tupK (K := K) (n := 2) rfl rfl (pgs_cons (pg_name (i := 4) sc_rows_in_order.nd rfl (by first | exact Or.inl rfl | exact Or.inr rfl)) (pgs_cons (pg_name (i := 3) sc_rows_in_order.nd rfl (by first | exact Or.inl rfl | exact Or.inr rfl)) pgs_nil))) (pss_one (ps_expr (pe_bm PySem.F.plainAttrs_list PySem.F.slot_list_extend PySem.F.type_list_extend mt_extend (pv 2) (pa_cons (pe_lc (own := [("later", 5)]) rfl sc_rows_in_order.nd (pi_listK (K := K) rfl (pe_slice (sl_listK (K := K) rfl) (pv 1) (po_some (pe_op op_add (pv 4) pe_int)) po_none)) (blkOk_by (N := N_rows_in_order) (sc := defScope (top 22)) (by decide +kernel)) (fun _ _ _ _ _ => (pg_name (i := 5) sc_rows_in_order.nd rfl (by first | exact Or.inl rfl | exact Or.inr rfl))) (fun _ _ _ _ _ => pts_nil) (fun _ _ _ _ _ => (pe_lst (pa_cons (pv 3) (pa_cons (pv 5) pa_nil))))) pa_nil))))) (pss_one (ps_ret (pv 2)))))), ?_⟩
  refine q_asgP (Y := fun v H2 => ∃ p, v = .ref p ∧ H p = none ∧ RowAt H2 p (Pn02.clauses n)) (ep_call (ea_cons (ev_var rfl) ea_nil) (fun H1 e Q q E => ⟨_, ⟨n, rfl, hn1, hn4, rfl⟩, fun v H2 e2 ⟨p, h1, h2, h3⟩ => q v H2 e2 ⟨p, h1, fresh_back e h2, h3⟩⟩)) (fun v H1 e1 ⟨pc, hv, hpc, hr1⟩ => ?_)
  subst hv
  obtain ⟨xs, hx, f2⟩ := hr1.f2
  have hxl : xs.length ≤ 64 := by rw [f2.len]; exact clauses_len hn1 hn4
  refine q_asgOp (Y1 := fun v H2 => ∃ p0 pL, v = .ref pL ∧ H2 pL = some (.lst [.ref p0]) ∧ H2 p0 = some (.lst [])) (Y2 := fun _ Hb v H2 => ∃ p ys, v = .ref p ∧ Hb p = none ∧ H2 p = some (.lst ys) ∧ (∀ q, V.ref q ∈ ys → q ≠ p ∧ Hb q = none) ∧ ListsAt H2 ys ((List.range xs.length).map fun i => [xs.getD i .non])) ep_lst0 (fun v H2 e2 _ => ep_lists (fun i => [xs.getD i .non]) (ev_var rfl) (e2 _ _ hx) (by omega) (fun _ => rfl) (fun i x H4 e4 hi => ?_)) (fun v1 v2 H2 H4 e3 ⟨p0, pL, hv1, hL2, h02⟩ e4 ⟨pR, ys, hv2, hpR, hR, hne, hls⟩ => ?_)
  · have : xs.getD i .non = x := by rw [List.getD_eq_getElem?_getD, hi]; rfl
    rw [this]
    exact el_lst (ea_cons (ev_var rfl) ea_nil) (by show 1 ≤ 100000; decide)
  subst hv1 hv2
  have hL : H4 pL = some (.lst [.ref p0]) := e4 _ _ hL2
  have ecs : (List.range xs.length).map (fun i => [xs.getD i .non]) = xs.map fun c => [c] := by
    refine List.ext_getElem? fun i => ?_
    rw [List.getElem?_map, List.getElem?_map]
    by_cases h : i < xs.length
    · rw [List.getElem?_range h, List.getElem?_eq_getElem h]
      show some [xs.getD i .non] = _
      rw [List.getD_eq_getElem?_getD, List.getElem?_eq_getElem h]
      rfl
    · rw [List.getElem?_eq_none (by rw [List.length_range]; omega), List.getElem?_eq_none (by omega)]
      rfl
  rw [ecs] at hls
  have hys := hls.1
  rw [List.length_map] at hys
  refine ⟨pL, pR, [.ref p0], ys, rfl, rfl, hL, hR, by show 1 + ys.length ≤ sizeLine; rw [hys]; exact sz_of (by omega), fun pr hpr => ?_⟩
  -- the rows so far
  have e5 : Ex H1 H4 := e3.trans e4
  have hpr1 : H1 pr = none := fresh_back e5 hpr
  have h04 : H4 p0 = some (.lst []) := e4 _ _ h02
  have l0 : ListsAt (upd H4 pr (.lst ([.ref p0] ++ ys))) ([.ref p0] ++ ys) (rowsUp xs 0) := by
    have a : ListsAt H4 [.ref p0] [[]] := ⟨rfl, fun j c hc => by
      cases j with
      | zero =>
        cases (Option.some.inj hc)
        exact ⟨p0, rfl, h04⟩
      | succ j => cases hc⟩
    have b : ListsAt H4 ([.ref p0] ++ ys) (rowsUp xs 0) := by
      have := a.append hls
      unfold rowsUp
      rw [show (List.range 0).flatMap (fun k => (xs.drop (k + 1)).map fun y => [xs.getD k .non, y]) = [] from rfl, List.append_nil]
      exact this
    refine b.mut fun q hq z => ?_
    subst z
    obtain ⟨j, hj⟩ := List.getElem?_of_mem hq
    have hj2 := (List.getElem?_eq_some_iff.mp hj).1
    rw [b.1] at hj2
    obtain ⟨q', g1, g2⟩ := b.2 j _ (List.getElem?_eq_getElem hj2)
    rw [hj] at g1
    cases (Option.some.inj g1)
    rw [hpr] at g2
    cases g2
  refine q_forE (xs := xs) (ev_var rfl) (Ex.new hpr _ _ (e5 _ _ hx)) (fun i σ' H' => ∃ (o1 o2 : Option V) (zs : List V), σ' = [some (natV n), some (.ref pc), some (.ref pr), o1, o2, none] ∧ Ex H1 H' ∧ H' pr = some (.lst zs) ∧ (∀ q, V.ref q ∈ zs → q ≠ pr) ∧ ListsAt H' zs (rowsUp xs i))
    (fun H5 e6 => ⟨none, none, [.ref p0] ++ ys, rfl, (e5.trans (Ex.new hpr)).trans e6, e6 _ _ upd_same, fun q hq z => ?_, l0.ex e6⟩) (fun i σ' H' _ ⟨_, _, _, _, h, _⟩ => sq_of (h _ _ hx)) (fun i x σ' H' H'' hi ⟨o1, o2, zs, hσ, e6, h6, hn6, l6⟩ e7 => ?_) (fun σ' H' ⟨o1, o2, zs, hσ, e6, h6, hn6, l6⟩ => ?_)
  · subst z
    obtain ⟨j, hj⟩ := List.getElem?_of_mem hq
    have hj2 := (List.getElem?_eq_some_iff.mp hj).1
    rw [l0.1] at hj2
    obtain ⟨q', g1, g2⟩ := l0.2 j _ (List.getElem?_eq_getElem hj2)
    rw [hj] at g1
    cases (Option.some.inj g1)
    rw [upd_same] at g2
    rcases List.mem_append.mp hq with m | m
    · have := List.mem_singleton.mp m
      injection this with this
      rw [this] at hpr
      rw [hpr] at h04
      cases h04
    · have m2 := hls
      obtain ⟨j2, hj3⟩ := List.getElem?_of_mem m
      have hj4 := (List.getElem?_eq_some_iff.mp hj3).1
      rw [hls.1] at hj4
      obtain ⟨q2, g3, g4⟩ := hls.2 j2 _ (List.getElem?_eq_getElem hj4)
      rw [hj3] at g3
      cases (Option.some.inj g3)
      rw [hpr] at g4
      cases g4
  · subst hσ
    have hi2 := (List.getElem?_eq_some_iff.mp hi).1
    have hgx : xs.getD i .non = x := by rw [List.getD_eq_getElem?_getD, hi]; rfl
    refine s_ext (Y := fun v H2 => ∃ p ns, v = .ref p ∧ H2 p = some (.lst ns) ∧ (∀ q, V.ref q ∈ ns → H'' q = none) ∧ ListsAt H2 ns ((List.range (xs.drop (i + 1)).length).map fun j => [x, (xs.drop (i + 1)).getD j .non])) (e7 _ _ h6) (ev_var rfl) (fun H8 e8 => EvP.imp (ep_listsN (K := K) (xs := xs.drop (i + 1)) (fun j => [x, (xs.drop (i + 1)).getD j .non]) (H := H8) ?_ (by rw [List.length_drop]; omega) (fun _ => rfl) (fun j y H9 e9 hj => ?_)) (fun v H2 ⟨p, ys, q1, q2, q3, q4, q5⟩ => ⟨p, ys, q1, q3, fun q hq => fresh_back e8 (q4 q hq).2, q5⟩)) (fun v H9 e9 ⟨pN, ns, hv, hN, hnn, hln⟩ => ?_)
    · rw [← cut_from]
      refine el_sl (ev_var rfl) (eo_some (ev_is (ev_op (ev_var rfl) ev_c rv_I0) ?_)) eo_none (sq_of (e8 _ _ (e7 _ _ (e6 _ _ hx))))
      show V.int ((i : Int) + 1) = V.int ((i + 1 : Nat) : Int)
      rw [Int.natCast_add]
      rfl
    · have : (xs.drop (i + 1)).getD j .non = y := by rw [List.getD_eq_getElem?_getD, hj]; rfl
      rw [this]
      exact el_lst (ea_cons (ev_var rfl) (ea_cons (ev_var rfl) ea_nil)) (by show 2 ≤ 100000; decide)
    subst hv
    have ecs2 : (List.range (xs.drop (i + 1)).length).map (fun j => [x, (xs.drop (i + 1)).getD j .non]) = (xs.drop (i + 1)).map fun y => [xs.getD i .non, y] := by
      refine List.ext_getElem? fun j => ?_
      rw [List.getElem?_map, List.getElem?_map, hgx]
      by_cases h : j < (xs.drop (i + 1)).length
      · rw [List.getElem?_range h, List.getElem?_eq_getElem h]
        show some [x, (xs.drop (i + 1)).getD j .non] = _
        rw [List.getD_eq_getElem?_getD, List.getElem?_eq_getElem h]
        rfl
      · rw [List.getElem?_eq_none (by rw [List.length_range]; omega), List.getElem?_eq_none (by omega)]
        rfl
    rw [ecs2] at hln
    have hzl := l6.1
    have hzl2 := rowsUp_len xs i
    have hm : i * xs.length ≤ 64 * 64 := Nat.mul_le_mul (by omega) hxl
    have hnl := hln.1
    rw [List.length_map, List.length_drop] at hnl
    have hall : ListsAt H9 (zs ++ ns) (rowsUp xs (i + 1)) := by
      rw [rowsUp_succ]
      exact ((l6.ex e7).ex e9).append hln
    have hne : ∀ q, V.ref q ∈ zs ++ ns → q ≠ pr := fun q hq => by
      rcases List.mem_append.mp hq with m | m
      · exact hn6 q m
      · intro z
        subst z
        have := hnn q m
        rw [e7 _ _ h6] at this
        cases this
    refine ⟨pN, ns, rfl, hN, by omega, some x, some (natV i), zs ++ ns, rfl, ?_, upd_same, hne, hall.mut hne⟩
    exact Ex.mut ((e6.trans e7).trans e9) hpr1
  · subst hσ
    rw [rowsUp_all] at l6
    refine s_ret (ev_var rfl) (fun H7 e7 => k _ _ ((e1.trans e6).trans e7) ⟨pr, rfl, fresh_back e1 hpr1, ?_⟩)
    exact RowsAt.of (e7 _ _ h6) (l6.ex e7) ((f2_rows f2).imp fun a b q => f2_ex (e6.trans e7) q)
def sp_find_clauses (_ : PySem.W.Frag) (A : Ad) : Sp := spP fun vs H Y => ∃ pt t, vs = [.ref pt] ∧ TaskAt A H pt t ∧ WF t ∧ Y = fun v H2 => (Pn02.proof t = none ∧ v = .non) ∨ ∃ p r, Pn02.proof t = some r ∧ v = .ref p ∧ RowAt H2 p r ∧ r.length ≤ 2
theorem rows_short {l : List Clause} {r : List Clause} (h : r ∈ rows l) : r.length ≤ 2 := by
  unfold rows at h
  rcases List.mem_append.mp h with h | h
  · rcases List.mem_append.mp h with h | h
    · rw [List.mem_singleton.mp h]
      exact Nat.zero_le _
    · obtain ⟨c, _, rfl⟩ := List.mem_map.mp h
      show 1 ≤ 2
      decide
  · induction l with
    | nil => cases h
    | cons c l ih =>
      rcases List.mem_append.mp h with h | h
      · obtain ⟨d, _, rfl⟩ := List.mem_map.mp h
        exact Nat.le_refl _
      · refine ih ?_ h
        exact List.mem_append_right _ h
theorem d_find_clauses (T : Top K mg A) (F : Fun K "find_clauses" "find_clauses" s_find_clauses f fd) (hf : mg "find_clauses" = some (.ref f)) (D_rows_in_order : Def P w K mg base "rows_in_order" 2 ["facts"] (sp_rows_in_order K A)) (D_clauses_check : Def P w K mg base "clauses_check" 4 ["task", "clauses"] (sp_clauses_check K A)) : Def P w K mg base "find_clauses" 5 ["task"] (sp_find_clauses K A) := by
  obtain ⟨f_rows_in_order, fd_rows_in_order, g_rows_in_order, k_rows_in_order, b_rows_in_order, G_rows_in_order⟩ := D_rows_in_order
  obtain ⟨f_clauses_check, fd_clauses_check, g_clauses_check, k_clauses_check, b_clauses_check, G_clauses_check⟩ := D_clauses_check
  refine ⟨f, fd, hf, F.kp, F.binds (fun _ _ _ _ _ _ us hl => match us, hl with | [_], _ => rfl), F.ok sc_find_clauses (fun vs H Q E h => ?_) (fun cdv A' outer s H vs Q E hr h => ?_)⟩
  · obtain ⟨Y, ⟨pt, t, rfl, ht, hw, rfl⟩, k⟩ := h
    rfl
  obtain ⟨Y, ⟨pt, t, rfl, ht, hw, rfl⟩, k⟩ := h
  refine ⟨_, (pss_cons (ps_for PassesOwn.never rfl (pi_listK (K := K) rfl (pe_call G_rows_in_order (hr.mono (by decide)) rfl g_rows_in_order k_rows_in_order b_rows_in_order .nil pass0 (pa_cons (pe_fldK (K := K) rfl (pv 0) rfl) pa_nil))) (pg_name (i := 1) sc_find_clauses.nd rfl (by first | exact Or.inl rfl | exact Or.inr rfl)) (pss_one (ps_if (pt_cmpR (op_eqD hr.units) (pe_call G_clauses_check (hr.mono (by decide)) rfl g_clauses_check k_clauses_check b_clauses_check .nil pass0 (pa_cons (pv 0) (pa_cons (pv 1) pa_nil))) (pe_lst (pa_cons pe_int pa_nil)) (nomark _)) (pss_one (ps_ret (pv 1))) pss_nil))) (pss_one (ps_ret pe_non))), ?_⟩
  have hwr : ∀ r ∈ rows (Pn02.clauses t.facts), r.length ≤ 2 := fun r hr => rows_short hr
  refine ep_call (Y := fun v H2 => ∃ p, v = .ref p ∧ RowsAt H2 p (rows (Pn02.clauses t.facts))) (ea_cons (ev_facts T ht (ev_var rfl)) ea_nil) (fun H1 e Q q E => ⟨_, ⟨t.facts, rfl, hw.f1, hw.f4, rfl⟩, fun v H2 e2 ⟨p, h1, h2, h3⟩ => q v H2 e2 ⟨p, h1, h3⟩⟩) H (Ex.refl H) _ fun v H1 e1 ⟨pr, hv, ys, h1, h2, h3⟩ => ?_
  subst hv
  refine ⟨pr, rfl, ⟨ys, sq_of h1⟩, for_list (K := K) (a := pr) (xs := ys) (fun i σ' H' => ∃ o : Option V, σ' = [some (.ref pt), o] ∧ Ex H1 H' ∧ ∀ j r, j < i → (rows (Pn02.clauses t.facts))[j]? = some r → Pn02.proves t r = false) ⟨none, rfl, Ex.refl H1, fun j r hj => by omega⟩ (fun i σ' H' _ ⟨_, _, e2, _⟩ => sq_of (e2 _ _ h1)) (fun i x σ' H' hi ⟨o, hσ, e2, hno⟩ => ?_) (fun σ' H' ⟨o, hσ, e2, hno⟩ => ?_)⟩
  · subst hσ
    have hi2 := (List.getElem?_eq_some_iff.mp hi).1
    have hr2 : (rows (Pn02.clauses t.facts))[i]? = some (rows (Pn02.clauses t.facts))[i] := List.getElem?_eq_getElem (by omega)
    obtain ⟨q, g1, g2⟩ := h3 i _ hr2
    rw [hi] at g1
    cases (Option.some.inj g1)
    have hlen := hwr _ (List.getElem_mem (show i < (rows (Pn02.clauses t.facts)).length by omega))
    refine s_when (b := Pn02.proves t (rows (Pn02.clauses t.facts))[i]) (et_is (et_test (ev_eqLL (m := [0]) (el_call (ea_cons (ev_var rfl) (ea_cons (ev_var rfl) ea_nil)) (spL_of fun H3 e3 => ⟨pt, t, q, _, rfl, ht.mono ((e1.trans e2).trans e3), hw, (g2.ex e2).ex e3, by omega, rfl⟩)) (el_lst (ea_cons ev_c ea_nil) (by show 1 ≤ 100000; decide)))) (clauses_zero t _)) (fun hb H3 e3 => ?_) (fun hb H3 e3 => ?_)
    · refine s_ret (ev_var rfl) (fun H4 e4 => k _ _ (((e1.trans e2).trans e3).trans e4) (.inr ⟨q, _, ?_, rfl, ((g2.ex e2).ex e3).ex e4, hlen⟩))
      rw [proof_eq, List.find?_eq_some_iff_getElem]
      refine ⟨hb, i, by omega, rfl, fun j hj => ?_⟩
      rw [hno j _ hj (List.getElem?_eq_getElem (by omega))]
      rfl
    · refine ⟨some (.ref q), rfl, e2.trans e3, fun j r hj hr3 => ?_⟩
      by_cases c : j < i
      · exact hno j r c hr3
      · have c : j = i := by omega
        subst c
        rw [hr2] at hr3
        cases (Option.some.inj hr3)
        exact hb
  · subst hσ
    refine k .non H' (e1.trans e2) (.inl ⟨?_, rfl⟩)
    rw [proof_eq, List.find?_eq_none]
    intro r hr3
    obtain ⟨j, hj⟩ := List.getElem?_of_mem hr3
    have := (List.getElem?_eq_some_iff.mp hj).1
    rw [hno j r (by omega) hj]
    decide
end
end PC

set_option Elab.async false
set_option linter.all false
set_option maxRecDepth 100000
set_option maxHeartbeats 2000000
namespace PC
open PySem PySem.Spec PyProof.Rows L2 Evl
section
variable {K : PySem.W.Frag} {σ : L2.St} {H H' G : Hp} {ta tb te tl tv : TE} {t u : TT} {D : Ends} {tu tw tz : TS} {v : V}
theorem ev_orN {a b : Nat} (ha : Ev ta σ H (natV a)) (hb : Ev tb σ H (natV b)) : Ev (tOrT K ta tb) σ H (natV (if a = 0 then b else a)) := fun H1 e Q q => ha H1 e _ fun H2 e2 => ⟨((a : Int) != 0), rfl, by
  by_cases h : a = 0
  · subst h
    rw [if_pos rfl] at q
    show (if (((0 : Nat) : Int) != 0) = true then _ else _)
    rw [if_neg (by decide)]
    exact hb H2 (e.trans e2) _ fun H3 e3 => q H3 (e2.trans e3)
  · rw [if_neg h] at q
    have : ((a : Int) != 0) = true := by
      rw [bne_iff_ne]
      omega
    rw [this, if_pos rfl]
    exact q H2 e2⟩
theorem ev_bitAt {g i : Nat} (ha : Ev ta σ H (natV g)) (hb : Ev tb σ H (natV i)) : Ev (tOp (rI0 fun i j => .int (Builtin.bitAnd i j)) (tOp (rI (fun _ j => 0 ≤ j) fun i j => .int (i / 2 ^ j.toNat)) ta tb) (tC (.int 1))) σ H (natV (g / 2 ^ i % 2)) := by
  have e1 : Ev (tOp (rI (fun _ j => 0 ≤ j) fun i j => .int (i / 2 ^ j.toNat)) ta tb) σ H (natV (g / 2 ^ i)) := by
    unfold natV
    rw [← shr_nat]
    exact ev_shr ha hb
  refine ev_is (ev_band (b := 1) e1 ev_c) ?_
  rw [Nat.and_one_is_mod]
  rfl
theorem bit_truth (g i : Nat) : (((g / 2 ^ i % 2 : Nat) : Int) != 0) = g.testBit i := by
  rw [Nat.testBit_eq_decide_div_mod_eq]
  rcases Nat.mod_two_eq_zero_or_one (g / 2 ^ i) with h | h <;> rw [h] <;> rfl
theorem et_bit {g i : Nat} (ha : Ev ta σ H (natV g)) (hb : Ev tb σ H (natV i)) : EvT (fun σ H Q => (tOp (rI0 fun i j => .int (Builtin.bitAnd i j)) (tOp (rI (fun _ j => 0 ≤ j) fun i j => .int (i / 2 ^ j.toNat)) ta tb) (tC (.int 1))) σ H fun x H' => ∃ k, TruV K x H' k ∧ Q k H') σ H (g.testBit i) := et_is (et_int (ev_bitAt ha hb)) (bit_truth g i)
/-- a field of self is set: what the rest of the heap holds is told by G -/
theorem q_fld {p C dx : Addr} {fs : List (Str × V)} {f : Str} (hp : H p = some (.ins C dx fs)) (e : Ex G H) (h : Ev tv σ H v) (ha : Ev ta σ H (.ref p)) (c : Cls K C) (n : NoAttr K C f) (hl : fs.length < 1000) (hG : G p = none) (k : ∀ H1, Ex G H1 → H1 p = some (.ins C dx (putF f v fs)) → tz D σ H1) : tSeq (sFld K ta tv f) tz D σ H :=
  h H (Ex.refl H) _ fun H1 e1 => ha H1 e1 _ fun H2 e2 => ⟨p, C, dx, fs, rfl, e2 _ _ (e1 _ _ hp), c, n, hl, k _ (Ex.mut ((e.trans e1).trans e2) hG) upd_same⟩
theorem s_fld {p C dx : Addr} {fs : List (Str × V)} {f : Str} (hp : H p = some (.ins C dx fs)) (e : Ex G H) (h : Ev tv σ H v) (ha : Ev ta σ H (.ref p)) (c : Cls K C) (n : NoAttr K C f) (hl : fs.length < 1000) (hG : G p = none) (k : ∀ H1, Ex G H1 → H1 p = some (.ins C dx (putF f v fs)) → D.nx σ H1) : sFld K ta tv f D σ H :=
  h H (Ex.refl H) _ fun H1 e1 => ha H1 e1 _ fun H2 e2 => ⟨p, C, dx, fs, rfl, e2 _ _ (e1 _ _ hp), c, n, hl, k _ (Ex.mut ((e.trans e1).trans e2) hG) upd_same⟩
theorem q_fldL {p C dx : Addr} {fs : List (Str × V)} {f : Str} {xs : List V} (hp : H p = some (.ins C dx fs)) (e : Ex G H) (h : EvL tv σ H xs) (ha : Ev ta σ H (.ref p)) (c : Cls K C) (n : NoAttr K C f) (hl : fs.length < 1000) (hG : G p = none) (k : ∀ q H1, G q = none → q ≠ p → Ex G H1 → H1 q = some (.lst xs) → H1 p = some (.ins C dx (putF f (.ref q) fs)) → tz D σ H1) : tSeq (sFld K ta tv f) tz D σ H :=
  h H (Ex.refl H) _ fun q H1 hq e1 h1 => ha H1 e1 _ fun H2 e2 => ⟨p, C, dx, fs, rfl, e2 _ _ (e1 _ _ hp), c, n, hl, by
    have ne : q ≠ p := fun z => by
      rw [z, hp] at hq
      cases hq
    exact k q _ (fresh_back e hq) ne (Ex.mut ((e.trans e1).trans e2) hG) (by rw [upd_ne ne]; exact e2 _ _ h1) upd_same⟩
theorem s_fldL {p C dx : Addr} {fs : List (Str × V)} {f : Str} {xs : List V} (hp : H p = some (.ins C dx fs)) (e : Ex G H) (h : EvL tv σ H xs) (ha : Ev ta σ H (.ref p)) (c : Cls K C) (n : NoAttr K C f) (hl : fs.length < 1000) (hG : G p = none) (k : ∀ q H1, G q = none → q ≠ p → Ex G H1 → H1 q = some (.lst xs) → H1 p = some (.ins C dx (putF f (.ref q) fs)) → D.nx σ H1) : sFld K ta tv f D σ H :=
  h H (Ex.refl H) _ fun q H1 hq e1 h1 => ha H1 e1 _ fun H2 e2 => ⟨p, C, dx, fs, rfl, e2 _ _ (e1 _ _ hp), c, n, hl, by
    have ne : q ≠ p := fun z => by
      rw [z, hp] at hq
      cases hq
    exact k q _ (fresh_back e hq) ne (Ex.mut ((e.trans e1).trans e2) hG) (by rw [upd_ne ne]; exact e2 _ _ h1) upd_same⟩
end
section
variable {P : Program} {w : World} {K : PySem.W.Frag} {mg : Str → Option Value} {base : Heap} {A : Ad} {f : Addr} {fd : FuncData}
/-! ### the eased task -/
abbrev s_Eased___init__ : Stmt := inClass (top 25) 0
abbrev N_Eased___init__ : List Str := ["self", "task", "always", "act"]
theorem sc_Eased___init__ : FnScope N_Eased___init__ ["self", "task"] (defScope s_Eased___init__) := ⟨rfl, rfl, rfl, by decide +kernel, rfl, by decide +kernel, by decide +kernel⟩
abbrev s_facts_in : Stmt := top 26
abbrev N_facts_in : List Str := ["group", "fact"]
theorem sc_facts_in : FnScope N_facts_in ["group"] (defScope s_facts_in) := ⟨rfl, rfl, rfl, by decide +kernel, rfl, by decide +kernel, by decide +kernel⟩
abbrev s_row_worth : Stmt := top 27
abbrev N_row_worth : List Str := ["needed", "worths", "each", "fact"]
theorem sc_row_worth : FnScope N_row_worth ["needed", "worths"] (defScope s_row_worth) := ⟨rfl, rfl, rfl, by decide +kernel, rfl, by decide +kernel, by decide +kernel⟩
abbrev s_fact_worth : Stmt := top 28
abbrev N_fact_worth : List Str := ["eased", "prices", "worths", "fact", "least", "number", "needed", "worth", "way"]
theorem sc_fact_worth : FnScope N_fact_worth ["eased", "prices", "worths", "fact"] (defScope s_fact_worth) := ⟨rfl, rfl, rfl, by decide +kernel, rfl, by decide +kernel, by decide +kernel⟩
abbrev s_fact_worths : Stmt := top 29
abbrev N_fact_worths : List Str := ["eased", "prices", "earlier", "worths", "fact"]
theorem sc_fact_worths : FnScope N_fact_worths ["eased", "prices"] (defScope s_fact_worths) := ⟨rfl, rfl, rfl, by decide +kernel, rfl, by decide +kernel, by decide +kernel⟩
def needV (t : Pn.Task) : List V := (List.range (t.acts.length + 1)).map fun k => natV (needM t k)
def bringV (t : Pn.Task) : List V := (List.range (t.acts.length + 1)).map fun k => natV (bringM t k)
theorem needV_get {t : Pn.Task} {k : Nat} (h : k < t.acts.length + 1) : (needV t)[k]? = some (natV (needM t k)) := by
  unfold needV
  rw [List.getElem?_map, List.getElem?_range h]
  rfl
theorem bringV_get {t : Pn.Task} {k : Nat} (h : k < t.acts.length + 1) : (bringV t)[k]? = some (natV (bringM t k)) := by
  unfold bringV
  rw [List.getElem?_map, List.getElem?_range h]
  rfl
theorem needV_len (t : Pn.Task) : (needV t).length = t.acts.length + 1 := by
  unfold needV
  rw [List.length_map, List.length_range]
theorem acts_list (t : Pn.Task) (g : Pn.Act → V) (z : V) (h : Nat → V) (h1 : ∀ k, k < t.acts.length → h k = g (t.act k)) (h2 : h t.acts.length = z) : t.acts.map g ++ [z] = (List.range (t.acts.length + 1)).map h := by
  rw [List.range_succ, List.map_append]
  congr 1
  · refine List.ext_getElem? fun i => ?_
    rw [List.getElem?_map, List.getElem?_map]
    by_cases c : i < t.acts.length
    · rw [List.getElem?_range c, List.getElem?_eq_getElem c]
      show _ = some (h i)
      rw [h1 i c, act_get c]
      rfl
    · rw [List.getElem?_eq_none (by omega), List.getElem?_eq_none (by rw [List.length_range]; omega)]
      rfl
  · show [z] = [h t.acts.length]
    rw [h2]
theorem needV_eq (t : Pn.Task) : t.acts.map (fun a => natV (orAlways t.facts a.pre)) ++ [natV (orAlways t.facts t.goal)] = needV t := acts_list t _ _ _ (fun k hk => by unfold needM; rw [if_pos hk]) (by unfold needM; rw [if_neg (by omega)])
theorem bringV_eq (t : Pn.Task) : t.acts.map (fun a => natV a.add) ++ [natV (2 ^ (t.facts + 1))] = bringV t := acts_list t _ _ _ (fun k hk => by unfold bringM; rw [if_pos hk]) (by unfold bringM; rw [if_neg (by omega)])
def easedF (t : Pn.Task) (ln lb : Addr) : List (Str × V) := [("end", natV (t.facts + 1)), ("so", natV (t.start ||| 2 ^ t.facts)), ("needs", .ref ln), ("brings", .ref lb)]
structure EasedAt (A : Ad) (H : Hp) (p : Addr) (t : Pn.Task) : Prop where
  ex : ∃ dx ln lb : Addr, H p = some (.ins A.eased dx (easedF t ln lb)) ∧ H ln = some (.lst (needV t)) ∧ H lb = some (.lst (bringV t))
theorem EasedAt.mono {H H' : Hp} {p : Addr} {t : Pn.Task} (e : Ex H H') (h : EasedAt A H p t) : EasedAt A H' p t := by
  obtain ⟨dx, ln, lb, h1, h2, h3⟩ := h.ex
  exact ⟨dx, ln, lb, e _ _ h1, e _ _ h2, e _ _ h3⟩
theorem eased_at (T : Top K mg A) {H : Hp} {p : Addr} {t : Pn.Task} (h : EasedAt A H p t) : ∃ ln lb : Addr, H ln = some (.lst (needV t)) ∧ H lb = some (.lst (bringV t)) ∧ ∀ (ta : TE) (σ : L2.St), Ev ta σ H (.ref p) →
    Ev (tFld K ta "end") σ H (natV (t.facts + 1)) ∧ Ev (tFld K ta "so") σ H (natV (t.start ||| 2 ^ t.facts)) ∧ Ev (tFld K ta "needs") σ H (.ref ln) ∧ Ev (tFld K ta "brings") σ H (.ref lb) := by
  obtain ⟨dx, ln, lb, h1, h2, h3⟩ := h.ex
  exact ⟨ln, lb, h2, h3, fun ta σ ha => ⟨ev_fld ha h1 T.cEased T.nEnd lk_here, ev_fld ha h1 T.cEased T.nESo (lk_past (by decide +kernel) lk_here), ev_fld ha h1 T.cEased T.nENeeds (lk_past (by decide +kernel) (lk_past (by decide +kernel) lk_here)), ev_fld ha h1 T.cEased T.nEBrings (lk_past (by decide +kernel) (lk_past (by decide +kernel) (lk_past (by decide +kernel) lk_here)))⟩⟩
/-- of a new instance at p, the rest of the heap told by G -/
def sp_Eased___init__ (_ : PySem.W.Frag) (A : Ad) : Sp := fun vs H Q _ => ∃ (G : Hp) (p dx pt : Addr) (t : Pn.Task), vs = [.ref p, .ref pt] ∧ G p = none ∧ Ex G H ∧ H p = some (.ins A.eased dx []) ∧ TaskAt A G pt t ∧ WF t ∧ ∀ H', Ex G H' → EasedAt A H' p t → Q .non H'
theorem d_Eased___init__ (T : Top K mg A) (F : Fun K "__init__" "Eased.__init__" s_Eased___init__ f fd) (hf : mg "Eased" = some (.ref A.eased)) (hM : Mk K A.eased f)  : DefC P w K mg base "Eased" A.eased 1 ["self", "task"] (sp_Eased___init__ K A) := by
  refine ⟨f, fd, hf, hM, F.binds (fun _ _ _ _ _ _ us hl => match us, hl with | [_, _], _ => rfl), F.ok sc_Eased___init__ (fun vs H Q E h => ?_) (fun cdv A' outer s H vs Q E hr h => ?_)⟩
  · obtain ⟨G, p, dx, pt, t, rfl, hG, e0, hp, ht, hw, k⟩ := h
    rfl
  obtain ⟨G, p, dx, pt, t, rfl, hG, e0, hp, ht, hw, k⟩ := h
  refine ⟨_, (pss_cons (ps_set (i := 2) sc_Eased___init__.nd rfl (by first | exact Or.inl rfl | exact Or.inr rfl) (pe_op op_shl pe_int (pe_fldK (K := K) rfl (pv 1) rfl))) (pss_cons (ps_fld (pv 0) (pe_op op_add (pe_fldK (K := K) rfl (pv 1) rfl) pe_int) rfl) (pss_cons (ps_fld (pv 0) (pe_op op_or (pe_fldK (K := K) rfl (pv 1) rfl) (pv 2)) rfl) (pss_cons (ps_fld (pv 0) (pe_op op_cat (pe_lc (own := [("act", 3)]) rfl sc_Eased___init__.nd (pi_listK (K := K) rfl (pe_fldK (K := K) rfl (pv 1) rfl)) (blkOk_by (N := N_Eased___init__) (sc := defScope (inClass (top 25) 0)) (by decide +kernel)) (fun _ _ _ _ _ => (pg_name (i := 3) sc_Eased___init__.nd rfl (by first | exact Or.inl rfl | exact Or.inr rfl))) (fun _ _ _ _ _ => pts_nil) (fun _ _ _ _ _ => (pe_orTK (K := K) rfl (pe_fldK (K := K) rfl (pv 3) rfl) (pe_one (pv 2))))) (pe_lst (pa_cons (pe_orTK (K := K) rfl (pe_fldK (K := K) rfl (pv 1) rfl) (pe_one (pv 2))) pa_nil))) rfl) (pss_one (ps_fld (pv 0) (pe_op op_cat (pe_lc (own := [("act", 3)]) rfl sc_Eased___init__.nd (pi_listK (K := K) rfl (pe_fldK (K := K) rfl (pv 1) rfl)) (blkOk_by (N := N_Eased___init__) (sc := defScope (inClass (top 25) 0)) (by decide +kernel)) (fun _ _ _ _ _ => (pg_name (i := 3) sc_Eased___init__.nd rfl (by first | exact Or.inl rfl | exact Or.inr rfl))) (fun _ _ _ _ _ => pts_nil) (fun _ _ _ _ _ => (pe_fldK (K := K) rfl (pv 3) rfl))) (pe_lst (pa_cons (pe_op op_shl pe_int (pe_fldK (K := K) rfl (pv 0) rfl)) pa_nil))) rfl)))))), ?_⟩
  have hn8 := hw.n8
  have hf4 := hw.f4
  refine q_asg (v := natV (2 ^ t.facts)) (ev_shl1 (n := t.facts) (by omega) (ev_facts T (ht.mono e0) (ev_var rfl))) (fun H1 e1 => ?_)
  refine q_fld (G := G) (v := natV (t.facts + 1)) (e1 _ _ hp) (e0.trans e1) (ev_is (ev_op (ev_facts T (ht.mono (e0.trans e1)) (ev_var rfl)) ev_c rv_I0) ?_) (ev_var rfl) T.cEased T.nEnd (by decide) hG (fun H2 e2 hp2 => ?_)
  · show V.int ((t.facts : Int) + 1) = V.int ((t.facts + 1 : Nat) : Int)
    rw [Int.natCast_add]
    rfl
  refine q_fld (G := G) (v := natV (t.start ||| 2 ^ t.facts)) hp2 e2 (ev_bor (a := t.start) (b := 2 ^ t.facts) (ev_so T (ht.mono e2) (ev_var rfl)) (ev_var rfl)) (ev_var rfl) T.cEased T.nESo (by show 1 < 1000; decide) hG (fun H3 e3 hp3 => ?_)
  obtain ⟨la, as, h2, h3, h4, h5⟩ := acts_at T (ht.mono e3)
  have hl : (as.map V.ref).length = t.acts.length := by rw [List.length_map, h3]
  refine q_fldL (G := G) (xs := needV t) hp3 e3 ?_ (ev_var rfl) T.cEased T.nENeeds (by show 2 < 1000; decide) hG (fun ln H4 hln nln e4 hn4 hp4 => ?_)
  · rw [← needV_eq]
    refine el_cat (el_map (by rw [List.length_map, hl]) (h4 _ _ (ev_var rfl)) h2 (by omega) (fun _ => rfl) (fun i x y H5 e5 hx hy => ?_)) (el_lst (ea_cons (ev_is (ev_orN (a := t.goal) (b := 2 ^ t.facts) (ev_wanted T (ht.mono e3) (ev_var rfl)) (ev_var rfl)) rfl) ea_nil) (by show 1 ≤ 100000; decide)) (by rw [List.length_map]; show t.acts.length + 1 ≤ _; omega)
    obtain ⟨a, act, rfl, ha, h6⟩ := h5 i x hx
    rw [List.getElem?_map, ha] at hy
    cases (Option.some.inj hy)
    exact ev_is (ev_orN (a := act.pre) (b := 2 ^ t.facts) (ev_needs T (h6.ex e5) (ev_var rfl)) (ev_var rfl)) rfl
  obtain ⟨la, as, h2, h3, h4, h5⟩ := acts_at T (ht.mono e4)
  have hl : (as.map V.ref).length = t.acts.length := by rw [List.length_map, h3]
  refine s_fldL (G := upd G ln (.lst (needV t))) (xs := bringV t) hp4 ?_ ?_ (ev_var rfl) T.cEased T.nEBrings (by show 3 < 1000; decide) (by rw [upd_ne (Ne.symm nln)]; exact hG) (fun lb H5 hlb nlb e5 hb5 hp5 => ?_)
  · intro b o hb
    by_cases c : b = ln
    · subst c
      rw [upd_same] at hb
      cases (Option.some.inj hb)
      exact hn4
    · rw [upd_ne c] at hb
      exact e4 b o hb
  · rw [← bringV_eq]
    refine el_cat (el_map (by rw [List.length_map, hl]) (h4 _ _ (ev_var rfl)) h2 (by omega) (fun _ => rfl) (fun i x y H5 e5 hx hy => ?_)) (el_lst (ea_cons (ev_shl1 (n := t.facts + 1) (by omega) (ev_fld (ev_var rfl) hp4 T.cEased T.nEnd lk_here)) ea_nil) (by show 1 ≤ 100000; decide)) (by rw [List.length_map]; show t.acts.length + 1 ≤ _; omega)
    obtain ⟨a, act, rfl, ha, h6⟩ := h5 i x hx
    rw [List.getElem?_map, ha] at hy
    cases (Option.some.inj hy)
    exact ev_brings T (h6.ex e5) (ev_var rfl)
  · refine k H5 ((Ex.new hln).trans e5) ⟨dx, ln, lb, ?_, e5 _ _ upd_same, hb5⟩
    rw [hp5]
    rfl
end
end PC

set_option Elab.async false
set_option linter.all false
set_option maxRecDepth 100000
set_option maxHeartbeats 2000000
namespace PC
open PySem PySem.Spec PyProof.Rows L2 Evl
section
variable {P : Program} {w : World} {K : PySem.W.Frag} {mg : Str → Option Value} {base : Heap} {A : Ad} {f : Addr} {fd : FuncData}
def bitsOf (g : Nat) : List Nat := (List.range (Builtin.Int.intBits (g : Int))).filter g.testBit
theorem bits_lt (g : Nat) : g < 2 ^ Builtin.Int.intBits (g : Int) := by
  have := (PySem.intBits_le_iff (m := Builtin.Int.intBits (g : Int)) (x := (g : Int))).mp (Nat.le_refl _)
  exact this
theorem bits_le {g m : Nat} (h : g < 2 ^ m) : Builtin.Int.intBits (g : Int) ≤ m := (PySem.intBits_le_iff (m := m) (x := (g : Int))).mpr h
theorem bitsOf_pre {t : Pn.Task} (hw : WF t) {k : Nat} (hk : k < t.acts.length + 1) : bitsOf (needM t k) = (stp t k).pre := pre_bits hw (by rw [steps_len]; exact hk) (bits_lt _)
def sp_facts_in (_ : PySem.W.Frag) (_ : Ad) : Sp := spL fun vs _ xs => ∃ g, vs = [natV g] ∧ g < 2 ^ 1000 ∧ xs = (bitsOf g).map natV
theorem d_facts_in (T : Top K mg A) (F : Fun K "facts_in" "facts_in" s_facts_in f fd) (hf : mg "facts_in" = some (.ref f))  : Def P w K mg base "facts_in" 1 ["group"] (sp_facts_in K A) := by
  refine ⟨f, fd, hf, F.kp, F.binds (fun _ _ _ _ _ _ us hl => match us, hl with | [_], _ => rfl), F.ok sc_facts_in (fun vs H Q E h => ?_) (fun cdv A' outer s H vs Q E hr h => ?_)⟩
  · obtain ⟨z, ⟨g, rfl, hg, rfl⟩, k⟩ := h
    rfl
  obtain ⟨z, ⟨g, rfl, hg, rfl⟩, k⟩ := h
  refine ⟨_, (pss_one (ps_ret (pe_lc (own := [("fact", 1)]) rfl sc_facts_in.nd (pi_range1 rfl T.b_range (pa_cons (pe_bits (pv 0)) pa_nil)) (blkOk_by (N := N_facts_in) (sc := defScope (top 26)) (by decide +kernel)) (fun _ _ _ _ _ => (pg_name (i := 1) sc_facts_in.nd rfl (by first | exact Or.inl rfl | exact Or.inr rfl))) (fun _ _ _ _ _ => (pts_one (pt_truthK (K := K) rfl (pe_op op_and (pe_op op_shr (pv 0) (pv 1)) pe_int) (by intro _; rfl)))) (fun _ _ _ _ _ => (pv 1))))), ?_⟩
  have hb := bits_le hg
  refine s_retL (xs := (bitsOf g).map natV) ?_ (fun p H1 hp e h => k p H1 hp e h)
  have q : EvL (tLc (iRng1 (tCons (tBits (tVar 0)) tNil)) (gName 1) (fun σ H Q => (tOp (rI0 fun i j => .int (Builtin.bitAnd i j)) (tOp (rI (fun _ j => 0 ≤ j) fun i j => .int (i / 2 ^ j.toNat)) (tVar 0) (tVar 1)) (tC (.int 1))) σ H fun x H' => ∃ k, TruV K x H' k ∧ Q k H') (tVar 1) [1]) (start N_facts_in [natV g]) H (given (((Builtin.Int.intBits (g : Int) : Nat) : Int)).toNat g.testBit natV) :=
    el_lcR1 (n := ((Builtin.Int.intBits (g : Int) : Nat) : Int)) g.testBit natV (ea_cons (fun H1 e Q q => ev_var (i := 0) (v := natV g) rfl H1 e _ fun H2 e2 => ⟨_, rfl, q H2 e2⟩) ea_nil) (by omega) (fun _ => rfl) (fun i H1 e1 hi => et_bit (ev_var rfl) (ev_var rfl)) (fun i H1 e1 hi _ => ev_var rfl)
  rw [Int.toNat_natCast] at q
  exact q
theorem inV_none : ∀ l : List (Option Nat), inV .non (l.map optV) = l.contains none
  | [] => rfl
  | none :: l => rfl
  | some n :: l => by
    show (eqV (natV n) .non || inV .non (l.map optV)) = _
    rw [inV_none l, List.contains_cons]
    rfl
theorem ev_maxN {σ : L2.St} {H : Hp} {ta : TE} {p : Addr} {ms : List Nat} {M : Nat} (ha : Ev ta σ H (.ref p)) (h : H p = some (.lst (ms.map natV))) (h1 : M ∈ ms) (h2 : ∀ x ∈ ms, x ≤ M) : Ev (tCB (rMax K) (tCons ta tNil)) σ H (natV M) := fun H1 e Q q => ha H1 e _ fun H2 e2 =>
  ⟨p, ms.map (fun n : Nat => (n : Int)), rfl, sq_of (by rw [List.map_map]; exact e2 _ _ (e _ _ h)), by rw [List.length_map]; exact List.length_pos_of_mem h1, fun m hm hle => by
    obtain ⟨n, hn, rfl⟩ := List.mem_map.mp hm
    have a := hle (M : Int) (List.mem_map.mpr ⟨M, h1, rfl⟩)
    have b := h2 n hn
    have e3 : n = M := by omega
    rw [e3]
    exact q H2 e2⟩
theorem all_some : ∀ {l : List (Option Nat)}, l.contains none = false → l.map optV = (there l).map natV
  | [], _ => rfl
  | none :: l, h => by cases h
  | some n :: l, h => by
    have h2 : l.contains none = false := by
      rw [List.contains_cons] at h
      exact (Bool.or_eq_false_iff.mp h).2
    show optV (some n) :: l.map optV = natV n :: (there l).map natV
    rw [all_some h2]
    rfl
def sp_row_worth (_ : PySem.W.Frag) (_ : Ad) : Sp := spV fun vs H z => ∃ g pw N d, vs = [natV g, .ref pw] ∧ H pw = some (.lst (rowV N d)) ∧ g < 2 ^ N ∧ N ≤ 1000 ∧ bitsOf g ≠ [] ∧ z = optV (joinF d (bitsOf g))
theorem d_row_worth (T : Top K mg A) (F : Fun K "row_worth" "row_worth" s_row_worth f fd) (hf : mg "row_worth" = some (.ref f)) (D_facts_in : Def P w K mg base "facts_in" 1 ["group"] (sp_facts_in K A)) : Def P w K mg base "row_worth" 2 ["needed", "worths"] (sp_row_worth K A) := by
  obtain ⟨f_facts_in, fd_facts_in, g_facts_in, k_facts_in, b_facts_in, G_facts_in⟩ := D_facts_in
  refine ⟨f, fd, hf, F.kp, F.binds (fun _ _ _ _ _ _ us hl => match us, hl with | [_, _], _ => rfl), F.ok sc_row_worth (fun vs H Q E h => ?_) (fun cdv A' outer s H vs Q E hr h => ?_)⟩
  · obtain ⟨z, ⟨g, pw, N, d, rfl, hpw, hg, hN, hne, rfl⟩, k⟩ := h
    rfl
  obtain ⟨z, ⟨g, pw, N, d, rfl, hpw, hg, hN, hne, rfl⟩, k⟩ := h
  refine ⟨_, (pss_cons (ps_setLc (i := 2) (own := [("fact", 3)]) rfl sc_row_worth.nd rfl rfl (sw_true rfl rfl rfl (by decide +kernel)) (pi_listK (K := K) rfl (pe_call G_facts_in (hr.mono (by decide)) rfl g_facts_in k_facts_in b_facts_in .nil pass0 (pa_cons (pv 0) pa_nil))) (blkOk_by (N := N_row_worth) (sc := defScope (top 27)) (by decide +kernel)) (fun _ _ _ _ _ => (pg_name (i := 3) sc_row_worth.nd rfl (by first | exact Or.inl rfl | exact Or.inr rfl))) (fun _ _ _ _ _ => pts_nil) (fun _ _ _ _ _ => (pe_ix (ix_listK (K := K) rfl) (pv 1) (pv 3) (fun _ _ => rfl)))) (pss_one (ps_ret (pe_ifExp (pt_cmpR (op_inK (K := K) rfl) pe_non (pv 2) (by rfl)) pe_non (pe_callB (cr_max rfl) (by rfl) T.b_max (by decide +kernel) (pa_cons (pv 2) pa_nil)))))), ?_⟩
  have hbl : (bitsOf g).length ≤ 1000 := by
    unfold bitsOf
    have := List.length_filter_le g.testBit (List.range (Builtin.Int.intBits (g : Int)))
    rw [List.length_range] at this
    have := bits_le hg
    omega
  refine q_asgL (xs := ((bitsOf g).map d).map optV) (el_mapN (xs := (bitsOf g).map natV) (by rw [List.length_map, List.length_map, List.length_map]) (el_call (ea_cons (ev_var rfl) ea_nil) (spL_of fun H1 e => ⟨g, rfl, Nat.lt_of_lt_of_le hg (Nat.pow_le_pow_right (by decide) hN), rfl⟩)) (by rw [List.length_map]; omega) (fun _ => rfl) (fun i x y H1 e1 hx hy => ?_)) (fun pe H1 hp e1 h1 => ?_)
  · rw [List.getElem?_map] at hx hy
    rw [List.getElem?_map] at hy
    cases q : (bitsOf g)[i]? with
    | none => rw [q] at hx; cases hx
    | some b =>
      rw [q] at hx hy
      cases (Option.some.inj hx)
      cases (Option.some.inj hy)
      have hb : b < N := by
        have m := List.mem_of_getElem? q
        have m2 := List.mem_range.mp (List.mem_filter.mp m).1
        have := bits_le hg
        omega
      exact ev_ixN (ev_var rfl) (ev_var rfl) (e1 _ _ hpw) (rowV_get hb)
  · refine s_ret (v := optV (joinF d (bitsOf g))) ?_ (fun H2 e2 => k.go (e1.trans e2))
    refine ev_if (b := ((bitsOf g).map d).contains none) (et_is (et_test (ev_op ev_c (ev_var rfl) (rv_isL (sq_of h1) rfl (flat_row _)))) (inV_none _)) (fun hb => ?_) (fun hb => ?_)
    · obtain ⟨b, hb1, hb2⟩ := List.mem_map.mp (List.contains_iff_mem.mp hb)
      rw [joinF_none ⟨b, hb1, hb2⟩]
      exact ev_c
    · have hall : ∀ b ∈ bitsOf g, ∃ y, d b = some y := fun b hb1 => by
        cases q : d b with
        | some y => exact ⟨y, rfl⟩
        | none =>
          have := List.contains_iff_mem.mpr (List.mem_map.mpr ⟨b, hb1, q⟩)
          rw [hb] at this
          cases this
      obtain ⟨M, hM, hle, _⟩ := joinF_some hall
      obtain ⟨b, hb1, hb2⟩ := joinF_ne hne hM
      rw [hM]
      rw [all_some hb] at h1
      refine ev_maxN (ev_var rfl) h1 (List.mem_filterMap.mpr ⟨some M, List.mem_map.mpr ⟨b, hb1, hb2⟩, rfl⟩) (fun x hx => ?_)
      obtain ⟨y, hy, e⟩ := List.mem_filterMap.mp hx
      cases (show y = some x from e)
      obtain ⟨c, hc1, hc2⟩ := List.mem_map.mp hy
      obtain ⟨z, hz1, hz2⟩ := hle c hc1
      rw [hc2] at hz1
      cases (Option.some.inj hz1)
      exact hz2
/-- the least of the first ways -/
def upTo (g : Nat → Option Nat) (k : Nat) : Option Nat := minO ((List.range k).map g)
theorem upTo_succ (g : Nat → Option Nat) (k : Nat) : upTo g (k + 1) = Pn.least (upTo g k) (g k) := by
  unfold upTo minO
  rw [List.range_succ, List.map_append, List.foldl_append]
  rfl
theorem least_none_right (a : Option Nat) : Pn.least a none = a := by cases a <;> rfl
def sp_fact_worth (_ : PySem.W.Frag) (A : Ad) : Sp := spV fun vs H z => ∃ pe pp pw t c d x, vs = [.ref pe, .ref pp, .ref pw, natV x] ∧ EasedAt A H pe t ∧ WF t ∧ PrOk t c ∧ H pp = some (.lst (c.map natV)) ∧ H pw = some (.lst (rowV (t.facts + 2) d)) ∧ x < t.facts + 2 ∧ z = optV (stepW t c t.start d x)
theorem d_fact_worth (T : Top K mg A) (F : Fun K "fact_worth" "fact_worth" s_fact_worth f fd) (hf : mg "fact_worth" = some (.ref f)) (D_row_worth : Def P w K mg base "row_worth" 2 ["needed", "worths"] (sp_row_worth K A)) : Def P w K mg base "fact_worth" 3 ["eased", "prices", "worths", "fact"] (sp_fact_worth K A) := by
  obtain ⟨f_row_worth, fd_row_worth, g_row_worth, k_row_worth, b_row_worth, G_row_worth⟩ := D_row_worth
  refine ⟨f, fd, hf, F.kp, F.binds (fun _ _ _ _ _ _ us hl => match us, hl with | [_, _, _, _], _ => rfl), F.ok sc_fact_worth (fun vs H Q E h => ?_) (fun cdv A' outer s H vs Q E hr h => ?_)⟩
  · obtain ⟨z, ⟨pe, pp, pw, t, c, d, x, rfl, he, hw, hc, hpp, hpw, hx, rfl⟩, k⟩ := h
    rfl
  obtain ⟨z, ⟨pe, pp, pw, t, c, d, x, rfl, he, hw, hc, hpp, hpw, hx, rfl⟩, k⟩ := h
  refine ⟨_, (pss_cons (ps_if (pt_truthK (K := K) rfl (pe_op op_and (pe_op op_shr (pe_fldK (K := K) rfl (pv 0) rfl) (pv 3)) pe_int) (by intro _; rfl)) (pss_one (ps_ret pe_int)) pss_nil) (pss_cons (ps_set (i := 4) sc_fact_worth.nd rfl (by first | exact Or.inl rfl | exact Or.inr rfl) pe_non) (pss_cons (ps_for PassesOwn.never rfl (pi_enum (by rfl) T.b_enumerate (pa_cons (pe_fldK (K := K) rfl (pv 0) rfl) pa_nil)) (pg_tupK (K := K) (n := 2) rfl rfl (pgs_cons (pg_name (i := 5) sc_fact_worth.nd rfl (by first | exact Or.inl rfl | exact Or.inr rfl)) (pgs_cons (pg_name (i := 6) sc_fact_worth.nd rfl (by first | exact Or.inl rfl | exact Or.inr rfl)) pgs_nil))) (pss_cons (ps_set (i := 7) sc_fact_worth.nd rfl (by first | exact Or.inl rfl | exact Or.inr rfl) (pe_call G_row_worth (hr.mono (by decide)) rfl g_row_worth k_row_worth b_row_worth .nil pass0 (pa_cons (pv 6) (pa_cons (pv 2) pa_nil)))) (pss_one (ps_if (PW.pt (pw_and (pt_truthK (K := K) rfl (pe_op op_and (pe_op op_shr (pe_ix (ix_listK (K := K) rfl) (pe_fldK (K := K) rfl (pv 0) rfl) (pv 5) (fun _ _ => rfl)) (pv 3)) pe_int) (by intro _; rfl)) (pw_and1 (pt_cmpR op_notN (pv 7) pe_non (nomark _))))) (pss_cons (ps_set (i := 8) sc_fact_worth.nd rfl (by first | exact Or.inl rfl | exact Or.inr rfl) (pe_op op_add (pe_ix (ix_listK (K := K) rfl) (pv 1) (pv 5) (fun _ _ => rfl)) (pv 7))) (pss_one (ps_set (i := 4) sc_fact_worth.nd rfl (by first | exact Or.inl rfl | exact Or.inr rfl) (pe_ifExp (pt_cmpR op_isN (pv 4) pe_non (nomark _)) (pv 8) (pe_callB (call_min2 rfl) (by rfl) T.b_min (by decide +kernel) (pa_cons (pv 4) (pa_cons (pv 8) pa_nil))))))) pss_nil)))) (pss_one (ps_ret (pv 4)))))), ?_⟩
  have hn8 := hw.n8
  have hf4 := hw.f4
  obtain ⟨ln, lb, hln, hlb, hev⟩ := eased_at T he
  refine q_when (b := soB t t.start x) (et_is (et_bit (hev _ _ (ev_var rfl)).2.1 (ev_var rfl)) (so_bits hw.st x)) (fun hb H1 e1 => ?_) (fun hb H1 e1 => ?_)
  · refine s_ret (v := optV (stepW t c t.start d x)) ?_ (fun H2 e2 => k.go (e1.trans e2))
    rw [stepW_so hx hb]
    exact ev_c
  rw [stepW_not hx hb] at k
  refine q_asg (v := .non) ev_c (fun H2 e2 => ?_)
  have e12 := e1.trans e2
  have hev2 := fun (ta : TE) (σ : L2.St) (H3 : Hp) (e : Ex H H3) (h : Ev ta σ H3 (.ref pe)) => (eased_at T (he.mono e))
  refine q_forE (xs := needV t) (((hev _ _ (ev_var rfl)).2.2.1).mono e12) (e12 _ _ hln) (fun i σ' H' => ∃ o1 o2 o3 o4 : Option V, σ' = [some (.ref pe), some (.ref pp), some (.ref pw), some (natV x), some (optV (upTo (wayW t c d x) i)), o1, o2, o3, o4] ∧ Ex H H') (fun H3 e3 => ⟨none, none, none, none, rfl, e12.trans e3⟩) (fun i σ' H' _ ⟨_, _, _, _, _, e3⟩ => sq_of (e3 _ _ hln)) (fun i y σ' H' H'' hi ⟨o1, o2, o3, o4, hσ, e3⟩ e4 => ?_) (fun σ' H' ⟨o1, o2, o3, o4, hσ, e3⟩ => ?_)
  · subst hσ
    have hi2 := (List.getElem?_eq_some_iff.mp hi).1
    rw [needV_len] at hi2
    rw [needV_get hi2] at hi
    cases (Option.some.inj hi)
    have e5 := e3.trans e4
    have hst : i < (Pn03.steps t).length := by rw [steps_len]; exact hi2
    refine q_asg (v := optV (joinF d (stp t i).pre)) (ev_call (ea_cons (ev_var rfl) (ea_cons (ev_var rfl) ea_nil)) (spV_of fun H6 e6 => ⟨needM t i, pw, t.facts + 2, d, rfl, e6 _ _ (e5 _ _ hpw), ?_, by omega, ?_, ?_⟩)) (fun H6 e6 => ?_)
    · exact Nat.lt_trans (needM_lt hw) (Nat.pow_lt_pow_right (by decide) (by omega))
    · rw [bitsOf_pre hw hi2]
      exact (stp_ok hst).ne
    · rw [bitsOf_pre hw hi2]
    have e7 := e5.trans e6
    have hbr : ∀ (σ : L2.St) (ta tb : TE), Ev ta σ H (.ref pe) → Ev tb σ H6 (natV i) → Ev (tOp (rIxL K) (tFld K ta "brings") tb) σ H6 (natV (bringM t i)) := fun σ ta tb ha hb => ev_ixN (((hev _ _ ha).2.2.2).mono e7) hb (e7 _ _ hlb) (bringV_get hi2)
    have hc2 : c[i]? = some (c.getD i 0) := by
      rw [List.getD_eq_getElem?_getD, List.getElem?_eq_getElem (by rw [hc.len]; exact hi2)]
      rfl
    have hadd : (bringM t i).testBit x = (stp t i).add.contains x := by
      rw [Bool.eq_iff_iff, List.contains_iff_mem]
      exact (add_bits hw hst).symm
    refine s_when (b := (bringM t i).testBit x && (joinF d (stp t i).pre).isSome) (et_and (et_bit (hbr _ _ _ (ev_var rfl) (ev_var rfl)) (ev_var rfl)) (fun _ => et_is (et_test (ev_notN (ev_var rfl))) (by cases joinF d (stp t i).pre <;> rfl))) (fun hb2 H8 e8 => ?_) (fun hb2 H8 e8 => ?_)
    · obtain ⟨b1, b2⟩ := Bool.and_eq_true_iff.mp hb2
      obtain ⟨p, hp⟩ := Option.isSome_iff_exists.mp b2
      rw [hadd] at b1
      have hway : wayW t c d x i = some (c.getD i 0 + p) := by
        unfold wayW
        rw [if_pos b1, hp]
        exact congrArg some (Nat.add_comm _ _)
      rw [hp]
      refine q_asg (v := natV (c.getD i 0 + p)) (ev_is (ev_op (ev_ixN (v := natV (c.getD i 0)) (ev_var rfl) (ev_var rfl) ((e7.trans e8) _ _ hpp) (by rw [List.getElem?_map, hc2]; rfl)) (ev_var rfl) rv_I0) ?_) (fun H9 e9 => ?_)
      · show V.int (((c.getD i 0 : Nat) : Int) + (p : Int)) = V.int ((c.getD i 0 + p : Nat) : Int)
        rw [Int.natCast_add]
      refine s_asg (v := optV (upTo (wayW t c d x) (i + 1))) ?_ (fun H10 e10 => ⟨some (natV i), some (natV (needM t i)), some (optV (some p)), some (natV (c.getD i 0 + p)), rfl, ((e7.trans e8).trans e9).trans e10⟩)
      rw [upTo_succ, hway]
      refine ev_if (b := decide (optV (upTo (wayW t c d x) i) = .non)) (et_test (ev_isN (ev_var rfl))) (fun hz => ?_) (fun hz => ?_)
      · cases q : upTo (wayW t c d x) i with
        | none => exact ev_var rfl
        | some m =>
          rw [q] at hz
          cases of_decide_eq_true hz
      · cases q : upTo (wayW t c d x) i with
        | none =>
          rw [q] at hz
          cases hz
        | some m =>
          refine ev_is (ev_cb (ea_cons (ev_var rfl) (ea_cons (ev_var rfl) ea_nil)) (fun H11 e11 Q2 q2 => ⟨(m : Int), ((c.getD i 0 + p : Nat) : Int), rfl, q2 H11 (Ex.refl _)⟩)) ?_
          show V.int (if ((c.getD i 0 + p : Nat) : Int) < (m : Int) then ((c.getD i 0 + p : Nat) : Int) else (m : Int)) = V.int ((min m (c.getD i 0 + p) : Nat) : Int)
          by_cases hlt : c.getD i 0 + p < m
          · rw [if_pos (by omega), Nat.min_eq_right (by omega)]
          · rw [if_neg (by omega), Nat.min_eq_left (by omega)]
    · have hway : wayW t c d x i = none := by
        unfold wayW
        rw [hadd] at hb2
        by_cases q : (stp t i).add.contains x = true
        · rw [q, Bool.true_and] at hb2
          rw [if_pos q]
          cases r : joinF d (stp t i).pre with
          | none => rfl
          | some p =>
            rw [r] at hb2
            cases hb2
        · rw [if_neg q]
      refine ⟨some (natV i), some (natV (needM t i)), some (optV (joinF d (stp t i).pre)), o4, ?_, e7.trans e8⟩
      rw [upTo_succ, hway, least_none_right]
      rfl
  · subst hσ
    rw [needV_len] at *
    rw [steps_len] at k
    exact s_ret (ev_var rfl) (fun H4 e4 => k.go (e3.trans e4))
def sp_fact_worths (_ : PySem.W.Frag) (A : Ad) : Sp := spL fun vs H xs => ∃ pe pp t c, vs = [.ref pe, .ref pp] ∧ EasedAt A H pe t ∧ WF t ∧ PrOk t c ∧ H pp = some (.lst (c.map natV)) ∧ xs = rowV (t.facts + 2) (wst t c t.start)
theorem wr_stop {t : Pn.Task} {c : List Nat} {s k : Nat} {r : List (Option Nat)} (hr : (k = 0 ∧ r = []) ∨ ∃ j, k = j + 1 ∧ r = rowOf (t.facts + 2) (wr t c s j)) (h : rowOf (t.facts + 2) (wr t c s k) = r) : rowOf (t.facts + 2) (wr t c s k) = rowOf (t.facts + 2) (wst t c s) := by
  rcases hr with ⟨rfl, rfl⟩ | ⟨j, rfl, rfl⟩
  · have := congrArg List.length h
    rw [rowOf_len, List.length_nil] at this
    omega
  · exact wr_end h
theorem wr_go {t : Pn.Task} {c : List Nat} {s k : Nat} {r : List (Option Nat)} (hr : (k = 0 ∧ r = []) ∨ ∃ j, k = j + 1 ∧ r = rowOf (t.facts + 2) (wr t c s j)) (h : rowOf (t.facts + 2) (wr t c s k) ≠ r) : k ≤ t.facts + 2 := by
  rcases hr with ⟨rfl, rfl⟩ | ⟨j, rfl, rfl⟩
  · exact Nat.zero_le _
  · apply Classical.byContradiction
    intro q
    exact h (wr_soon (by omega))
theorem d_fact_worths (T : Top K mg A) (F : Fun K "fact_worths" "fact_worths" s_fact_worths f fd) (hf : mg "fact_worths" = some (.ref f)) (D_fact_worth : Def P w K mg base "fact_worth" 3 ["eased", "prices", "worths", "fact"] (sp_fact_worth K A)) : Def P w K mg base "fact_worths" 4 ["eased", "prices"] (sp_fact_worths K A) := by
  obtain ⟨f_fact_worth, fd_fact_worth, g_fact_worth, k_fact_worth, b_fact_worth, G_fact_worth⟩ := D_fact_worth
  refine ⟨f, fd, hf, F.kp, F.binds (fun _ _ _ _ _ _ us hl => match us, hl with | [_, _], _ => rfl), F.ok sc_fact_worths (fun vs H Q E h => ?_) (fun cdv A' outer s H vs Q E hr h => ?_)⟩
  · obtain ⟨z, ⟨pe, pp, t, c, rfl, he, hw, hc, hpp, rfl⟩, k⟩ := h
    rfl
  obtain ⟨z, ⟨pe, pp, t, c, rfl, he, hw, hc, hpp, rfl⟩, k⟩ := h
  refine ⟨_, (pss_cons (ps_set (i := 2) sc_fact_worths.nd rfl (by first | exact Or.inl rfl | exact Or.inr rfl) (pe_lst pa_nil)) (pss_cons (ps_setLc (i := 3) (own := [("fact", 4)]) rfl sc_fact_worths.nd rfl rfl (sw_true rfl rfl rfl (by decide +kernel)) (pi_range1 rfl T.b_range (pa_cons (pe_op op_add (pe_fldK (K := K) rfl (pv 0) rfl) pe_int) pa_nil)) (blkOk_by (N := N_fact_worths) (sc := defScope (top 29)) (by decide +kernel)) (fun _ _ _ _ _ => (pg_name (i := 4) sc_fact_worths.nd rfl (by first | exact Or.inl rfl | exact Or.inr rfl))) (fun _ _ _ _ _ => pts_nil) (fun _ _ _ _ _ => pe_non)) (pss_cons (ps_while PassesOwn.never (pt_cmpR (op_neD hr.units) (pv 3) (pv 2) (nomark _)) (pss_cons (ps_set (i := 2) sc_fact_worths.nd rfl (by first | exact Or.inl rfl | exact Or.inr rfl) (pv 3)) (pss_one (ps_setLc (i := 3) (own := [("fact", 4)]) rfl sc_fact_worths.nd rfl rfl (sw_true rfl rfl rfl (by decide +kernel)) (pi_range1 rfl T.b_range (pa_cons (pe_op op_add (pe_fldK (K := K) rfl (pv 0) rfl) pe_int) pa_nil)) (blkOk_by (N := N_fact_worths) (sc := defScope (top 29)) (by decide +kernel)) (fun _ _ _ _ _ => (pg_name (i := 4) sc_fact_worths.nd rfl (by first | exact Or.inl rfl | exact Or.inr rfl))) (fun _ _ _ _ _ => pts_nil) (fun _ _ _ _ _ => (pe_call G_fact_worth (hr.mono (by decide)) rfl g_fact_worth k_fact_worth b_fact_worth .nil pass0 (pa_cons (pv 0) (pa_cons (pv 1) (pa_cons (pv 2) (pa_cons (pv 4) pa_nil)))))))))) (pss_one (ps_ret (pv 3)))))), ?_⟩
  have hf4 := hw.f4
  obtain ⟨ln, lb, hln, hlb, hev⟩ := eased_at T he
  have hend : ∀ (σ : L2.St) (ta : TE) (H1 : Hp), Ex H H1 → Ev ta σ H (.ref pe) → EvA (tCons (tOp (rI0 fun i j => .int (i + j)) (tFld K ta "end") (tC (.int 1))) tNil) σ H1 [natV (t.facts + 2)] := fun σ ta H1 e ha => ea_cons (ev_is (ev_op (((hev _ _ ha).1).mono e) ev_c rv_I0) (by
    show V.int (((t.facts + 1 : Nat) : Int) + 1) = V.int ((t.facts + 2 : Nat) : Int)
    congr 1)) ea_nil
  refine q_asgL (xs := []) (el_lst ea_nil (by decide)) (fun pE H1 hpE e1 hE => ?_)
  refine q_asgL (xs := rowV (t.facts + 2) (wr t c t.start 0)) (el_mapR (n := t.facts + 2) (by rw [rowV_len]) (hend _ _ _ e1 (ev_var rfl)) (by omega) (fun _ => rfl) (fun i y H2 e2 hi hy => ?_)) (fun pC H2 hpC e2 hC => ?_)
  · rw [rowV_get hi] at hy
    cases (Option.some.inj hy)
    exact ev_c
  refine q_while (fun m σ' H' => ∃ j pE pC r, m = t.facts + 3 - j ∧ σ' = [some (.ref pe), some (.ref pp), some (.ref pE), some (.ref pC), none] ∧ Ex H H' ∧ H pC = none ∧ H' pC = some (.lst (rowV (t.facts + 2) (wr t c t.start j))) ∧ H' pE = some (.lst (r.map optV)) ∧ ((j = 0 ∧ r = []) ∨ ∃ i, j = i + 1 ∧ r = rowOf (t.facts + 2) (wr t c t.start i)))
    (t.facts + 3) ⟨0, pE, pC, [], rfl, rfl, e1.trans e2, fresh_back e1 hpC, hC, e2 _ _ hE, .inl ⟨rfl, rfl⟩⟩ (fun m σ' H' ⟨j, pE, pC, r, hm, hσ, e, hn, hC, hE, hr'⟩ => ?_)
  subst hm hσ
  refine ⟨!decide (rowOf (t.facts + 2) (wr t c t.start j) = r), et_test (ev_neRow (ev_var rfl) (ev_var rfl) hC hE), fun hb H3 e3 => ?_, fun hb H3 e3 => ?_⟩
  · have hne : rowOf (t.facts + 2) (wr t c t.start j) ≠ r := by simpa using hb
    have hj := wr_go hr' hne
    refine ⟨fun σ2 H2 => ∃ pC', σ2 = [some (.ref pe), some (.ref pp), some (.ref pC), some (.ref pC'), none] ∧ Ex H H2 ∧ H pC' = none ∧ H2 pC' = some (.lst (rowV (t.facts + 2) (wr t c t.start (j + 1)))) ∧ H2 pC = some (.lst (rowV (t.facts + 2) (wr t c t.start j))), fun σ2 H2 ⟨pC', h1, h2, h3, h4, h5⟩ => ⟨t.facts + 3 - (j + 1), by omega, j + 1, pC, pC', rowOf (t.facts + 2) (wr t c t.start j), rfl, h1, h2, h3, h4, h5, .inr ⟨j, rfl, rfl⟩⟩, ?_⟩
    refine q_asg (ev_var rfl) (fun H4 e4 => ?_)
    have e34 := (e.trans e3).trans e4
    refine s_asgL (xs := rowV (t.facts + 2) (wr t c t.start (j + 1))) (el_mapR (n := t.facts + 2) (by rw [rowV_len]) (hend _ _ _ e34 (ev_var rfl)) (by omega) (fun _ => rfl) (fun i y H5 e5 hi hy => ?_)) (fun pC' H5 hp5 e5 h5 => ?_)
    · rw [rowV_get hi] at hy
      cases (Option.some.inj hy)
      exact ev_call (ea_cons (ev_var rfl) (ea_cons (ev_var rfl) (ea_cons (ev_var rfl) (ea_cons (ev_var rfl) ea_nil)))) (spV_of fun H6 e6 => ⟨pe, pp, pC, t, c, wr t c t.start j, i, rfl, he.mono ((e34.trans e5).trans e6), hw, hc, e6 _ _ (e5 _ _ (e34 _ _ hpp)), e6 _ _ (e5 _ _ (e4 _ _ (e3 _ _ hC))), hi, rfl⟩)
    · exact ⟨pC', rfl, e34.trans e5, fresh_back e34 hp5, h5, e5 _ _ (e4 _ _ (e3 _ _ hC))⟩
  · have he2 : rowOf (t.facts + 2) (wr t c t.start j) = r := by simpa using hb
    have hs := wr_stop hr' he2
    refine s_ret (ev_var rfl) (fun H4 e4 => k pC H4 hn ((e.trans e3).trans e4) ?_)
    have := e4 _ _ (e3 _ _ hC)
    unfold rowV at this ⊢
    rw [hs] at this
    exact this
end
end PC

set_option Elab.async false
set_option linter.all false
set_option maxRecDepth 100000
set_option maxHeartbeats 2000000
namespace PC
open PySem PySem.Spec PyProof.Rows L2 Evl
section
variable {P : Program} {w : World} {K : PySem.W.Frag} {mg : Str → Option Value} {base : Heap} {A : Ad} {f : Addr} {fd : FuncData}
/-! ### cuts -/
abbrev s_Cut___init__ : Stmt := inClass (top 31) 0
abbrev N_Cut___init__ : List Str := ["self", "worth", "acts"]
theorem sc_Cut___init__ : FnScope N_Cut___init__ ["self", "worth", "acts"] (defScope s_Cut___init__) := ⟨rfl, rfl, rfl, by decide +kernel, rfl, by decide +kernel, by decide +kernel⟩
abbrev s_dear_fact : Stmt := top 32
abbrev N_dear_fact : List Str := ["needed", "worths", "worth", "fact"]
theorem sc_dear_fact : FnScope N_dear_fact ["needed", "worths"] (defScope s_dear_fact) := ⟨rfl, rfl, rfl, by decide +kernel, rfl, by decide +kernel, by decide +kernel⟩
abbrev s_zone_of : Stmt := top 33
abbrev N_zone_of : List Str := ["eased", "prices", "dears", "earlier", "zone", "number", "dear"]
theorem sc_zone_of : FnScope N_zone_of ["eased", "prices", "dears"] (defScope s_zone_of) := ⟨rfl, rfl, rfl, by decide +kernel, rfl, by decide +kernel, by decide +kernel⟩
abbrev s_is_among : Stmt := top 34
abbrev N_is_among : List Str := ["dear", "group"]
theorem sc_is_among : FnScope N_is_among ["dear", "group"] (defScope s_is_among) := ⟨rfl, rfl, rfl, by decide +kernel, rfl, by decide +kernel, by decide +kernel⟩
abbrev s_before_zone : Stmt := top 35
abbrev N_before_zone : List Str := ["eased", "zone", "dears", "earlier", "before", "number", "dear"]
theorem sc_before_zone : FnScope N_before_zone ["eased", "zone", "dears"] (defScope s_before_zone) := ⟨rfl, rfl, rfl, by decide +kernel, rfl, by decide +kernel, by decide +kernel⟩
abbrev s_next_cut : Stmt := top 36
abbrev N_next_cut : List Str := ["eased", "prices", "worths", "dears", "needed", "zone", "before", "acts", "number", "dear"]
theorem sc_next_cut : FnScope N_next_cut ["eased", "prices", "worths"] (defScope s_next_cut) := ⟨rfl, rfl, rfl, by decide +kernel, rfl, by decide +kernel, by decide +kernel⟩
abbrev s_find_cuts : Stmt := top 37
abbrev N_find_cuts : List Str := ["task", "eased", "prices", "act", "worths", "cuts", "cut", "number"]
theorem sc_find_cuts : FnScope N_find_cuts ["task"] (defScope s_find_cuts) := ⟨rfl, rfl, rfl, by decide +kernel, rfl, by decide +kernel, by decide +kernel⟩
def cutF (m : Nat) (la : Addr) : List (Str × V) := [("worth", natV m), ("acts", .ref la)]
def CutAt (A : Ad) (H : Hp) (p : Addr) (x : Nat × List Nat) : Prop := ∃ dx la : Addr, H p = some (.ins A.cut dx (cutF x.1 la)) ∧ H la = some (.lst (x.2.map natV))
theorem CutAt.ex {H H' : Hp} {p : Addr} {x : Nat × List Nat} (e : Ex H H') (h : CutAt A H p x) : CutAt A H' p x := by
  obtain ⟨dx, la, h1, h2⟩ := h
  exact ⟨dx, la, e _ _ h1, e _ _ h2⟩
def sp_Cut___init__ (_ : PySem.W.Frag) (A : Ad) : Sp := fun vs H Q _ => ∃ (G : Hp) (p dx la : Addr) (m : Nat), vs = [.ref p, natV m, .ref la] ∧ G p = none ∧ Ex G H ∧ H p = some (.ins A.cut dx []) ∧ ∀ H', Ex G H' → H' p = some (.ins A.cut dx (cutF m la)) → Q .non H'
theorem d_Cut___init__ (T : Top K mg A) (F : Fun K "__init__" "Cut.__init__" s_Cut___init__ f fd) (hf : mg "Cut" = some (.ref A.cut)) (hM : Mk K A.cut f)  : DefC P w K mg base "Cut" A.cut 1 ["self", "worth", "acts"] (sp_Cut___init__ K A) := by
  refine ⟨f, fd, hf, hM, F.binds (fun _ _ _ _ _ _ us hl => match us, hl with | [_, _, _], _ => rfl), F.ok sc_Cut___init__ (fun vs H Q E h => ?_) (fun cdv A' outer s H vs Q E hr h => ?_)⟩
  · obtain ⟨G, p, dx, la, m, rfl, hG, e0, hp, k⟩ := h
    rfl
  obtain ⟨G, p, dx, la, m, rfl, hG, e0, hp, k⟩ := h
  refine ⟨_, (pss_cons (ps_fld (pv 0) (pv 1) rfl) (pss_one (ps_fld (pv 0) (pv 2) rfl))), ?_⟩
  refine q_fld (G := G) (v := natV m) hp e0 (ev_var rfl) (ev_var rfl) T.cCut T.nWorth (by decide) hG (fun H2 e2 hp2 => ?_)
  refine s_fld (G := G) (v := .ref la) hp2 e2 (ev_var rfl) (ev_var rfl) T.cCut T.nCActs (by show 1 < 1000; decide) hG (fun H3 e3 hp3 => ?_)
  exact k H3 e3 hp3
def sp_dear_fact (_ : PySem.W.Frag) (_ : Ad) : Sp := spV fun vs H z => ∃ g pw N d, vs = [natV g, .ref pw] ∧ H pw = some (.lst (rowV N d)) ∧ g < 2 ^ N ∧ N ≤ 1000 ∧ bitsOf g ≠ [] ∧ z = optV (dearF d (bitsOf g))
theorem d_dear_fact (T : Top K mg A) (F : Fun K "dear_fact" "dear_fact" s_dear_fact f fd) (hf : mg "dear_fact" = some (.ref f)) (D_facts_in : Def P w K mg base "facts_in" 1 ["group"] (sp_facts_in K A)) (D_row_worth : Def P w K mg base "row_worth" 2 ["needed", "worths"] (sp_row_worth K A)) : Def P w K mg base "dear_fact" 3 ["needed", "worths"] (sp_dear_fact K A) := by
  obtain ⟨f_facts_in, fd_facts_in, g_facts_in, k_facts_in, b_facts_in, G_facts_in⟩ := D_facts_in
  obtain ⟨f_row_worth, fd_row_worth, g_row_worth, k_row_worth, b_row_worth, G_row_worth⟩ := D_row_worth
  refine ⟨f, fd, hf, F.kp, F.binds (fun _ _ _ _ _ _ us hl => match us, hl with | [_, _], _ => rfl), F.ok sc_dear_fact (fun vs H Q E h => ?_) (fun cdv A' outer s H vs Q E hr h => ?_)⟩
  · obtain ⟨z, ⟨g, pw, N, d, rfl, hpw, hg, hN, hne, rfl⟩, k⟩ := h
    rfl
  obtain ⟨z, ⟨g, pw, N, d, rfl, hpw, hg, hN, hne, rfl⟩, k⟩ := h
  refine ⟨_, (pss_cons (ps_set (i := 2) sc_dear_fact.nd rfl (by first | exact Or.inl rfl | exact Or.inr rfl) (pe_call G_row_worth (hr.mono (by decide)) rfl g_row_worth k_row_worth b_row_worth .nil pass0 (pa_cons (pv 0) (pa_cons (pv 1) pa_nil)))) (pss_cons (ps_if (pt_cmpR op_isN (pv 2) pe_non (nomark _)) (pss_one (ps_ret pe_non)) pss_nil) (pss_one (ps_ret (pe_ix (ix_listK (K := K) rfl) (pe_lc (own := [("fact", 3)]) rfl sc_dear_fact.nd (pi_listK (K := K) rfl (pe_call G_facts_in (hr.mono (by decide)) rfl g_facts_in k_facts_in b_facts_in .nil pass0 (pa_cons (pv 0) pa_nil))) (blkOk_by (N := N_dear_fact) (sc := defScope (top 32)) (by decide +kernel)) (fun _ _ _ _ _ => (pg_name (i := 3) sc_dear_fact.nd rfl (by first | exact Or.inl rfl | exact Or.inr rfl))) (fun _ _ _ _ _ => (pts_one (pt_cmpR op_eq (pe_ix (ix_listK (K := K) rfl) (pv 1) (pv 3) (fun _ _ => rfl)) (pv 2) (nomark _)))) (fun _ _ _ _ _ => (pv 3))) pe_int (fun _ _ => rfl)))))), ?_⟩
  have hbl : (bitsOf g).length ≤ 1000 := by
    unfold bitsOf
    have := List.length_filter_le g.testBit (List.range (Builtin.Int.intBits (g : Int)))
    rw [List.length_range] at this
    have := bits_le hg
    omega
  refine q_asg (v := optV (joinF d (bitsOf g))) (ev_call (ea_cons (ev_var rfl) (ea_cons (ev_var rfl) ea_nil)) (spV_of fun H1 e => ⟨g, pw, N, d, rfl, e _ _ hpw, hg, hN, hne, rfl⟩)) (fun H1 e1 => ?_)
  refine q_when (b := decide (optV (joinF d (bitsOf g)) = .non)) (et_test (ev_isN (ev_var rfl))) (fun hb H2 e2 => ?_) (fun hb H2 e2 => ?_)
  · refine s_ret (v := optV (dearF d (bitsOf g))) ?_ (fun H3 e3 => k.go ((e1.trans e2).trans e3))
    cases q : joinF d (bitsOf g) with
    | none =>
      unfold dearF
      rw [q]
      exact ev_c
    | some m =>
      rw [q] at hb
      cases of_decide_eq_true hb
  · cases q : joinF d (bitsOf g) with
    | none =>
      rw [q] at hb
      cases hb
    | some m =>
      obtain ⟨x, hx⟩ := dearF_ex hne q
      have hx2 : (bitsOf g).find? (fun f => d f == some m) = some x := by
        unfold dearF at hx
        rw [q] at hx
        exact hx
      refine s_ret (v := optV (dearF d (bitsOf g))) ?_ (fun H3 e3 => k.go ((e1.trans e2).trans e3))
      rw [hx]
      have hl : ((bitsOf g).map natV).length = (bitsOf g).length := List.length_map _
      have key : ∀ (i : Nat) (v : V), ((bitsOf g).map natV)[i]? = some v → v = natV ((bitsOf g).getD i 0) ∧ (bitsOf g).getD i 0 ∈ bitsOf g := fun i v hi => by
        have hi2 := (List.getElem?_eq_some_iff.mp hi).1
        rw [hl] at hi2
        rw [List.getElem?_map, List.getElem?_eq_getElem hi2] at hi
        rw [List.getD_eq_getElem?_getD, List.getElem?_eq_getElem hi2]
        exact ⟨(Option.some.inj hi).symm, List.getElem_mem hi2⟩
      refine ev_opL1 (xs := given ((bitsOf g).map natV).length (fun i => d ((bitsOf g).getD i 0) == some m) (fun i => natV ((bitsOf g).getD i 0))) (y := .int 0) (el_lcNL _ _ (el_call (ea_cons (ev_var rfl) ea_nil) (spL_of fun H1 e => ⟨g, rfl, Nat.lt_of_lt_of_le hg (Nat.pow_le_pow_right (by decide) hN), rfl⟩)) (by rw [hl]; omega) (fun _ => rfl) (fun i v H3 e3 hi => ?_) (fun i v H3 e3 hi _ => ?_)) (fun _ _ => ev_c) (fun p H3 hp e3 => rv_ixL (sq_of hp) (atI_nat (j := 0) ?_))
      · obtain ⟨rfl, hm⟩ := key i v hi
        have hb : (bitsOf g).getD i 0 < N := by
          have m2 := List.mem_range.mp (List.mem_filter.mp hm).1
          have := bits_le hg
          omega
        obtain ⟨y, hy, _⟩ := (joinF_inv q).1 _ hm
        have ix : ∀ (σ : L2.St) (ta tb : TE), Ev ta σ H3 (.ref pw) → Ev tb σ H3 (natV ((bitsOf g).getD i 0)) → Ev (tOp (rIxL K) ta tb) σ H3 (natV y) := fun σ ta tb h1 h2 => ev_ixN h1 h2 (e3 _ _ (e2 _ _ (e1 _ _ hpw))) (by rw [rowV_get hb, hy]; rfl)
        refine et_is (et_test (ev_eqN (a := y) (b := m) (ix _ _ _ (ev_var rfl) (ev_var rfl)) (ev_var rfl))) ?_
        rw [hy]
        rfl
      · obtain ⟨rfl, hm⟩ := key i v hi
        exact ev_var rfl
      · rw [hl, given_list (bitsOf g) 0 (fun f => d f == some m) natV, List.getElem?_map, ← List.head?_eq_getElem?, List.head?_filter, hx2]
        rfl
def dearV (t : Pn.Task) (c : List Nat) (s : Nat) : List V := (List.range (t.acts.length + 1)).map fun k => optV (dearK t c s k)
theorem dearV_get {t : Pn.Task} {c : List Nat} {s k : Nat} (h : k < t.acts.length + 1) : (dearV t c s)[k]? = some (optV (dearK t c s k)) := by
  unfold dearV
  rw [List.getElem?_map, List.getElem?_range h]
  rfl
theorem dearV_len (t : Pn.Task) (c : List Nat) (s : Nat) : (dearV t c s).length = t.acts.length + 1 := by
  unfold dearV
  rw [List.length_map, List.length_range]
theorem ev_orBit {σ : L2.St} {H : Hp} {ta tb : TE} {a n : Nat} (hn : n ≤ 1000) (ha : Ev ta σ H (natV a)) (hb : Ev tb σ H (natV n)) : Ev (tOp (rI0 fun i j => .int (Builtin.bitOr i j)) ta (tOp (rI CPow fun i j => .int (i * 2 ^ j.toNat)) (tC (.int 1)) tb)) σ H (natV (a ||| 2 ^ n)) := ev_bor (a := a) (b := 2 ^ n) ha (ev_shl1 hn hb)
theorem nat_truth (n : Nat) : ((n : Int) != 0) = decide (n ≠ 0) := by
  rw [Bool.eq_iff_iff, bne_iff_ne, decide_eq_true_eq]
  omega
theorem et_and0 {σ : L2.St} {H : Hp} {ta tb : TE} {a b : Nat} (ha : Ev ta σ H (natV a)) (hb : Ev tb σ H (natV b)) : EvT (fun σ H Q => (tOp (rI0 fun i j => .int (Builtin.bitAnd i j)) ta tb) σ H fun x H' => ∃ k, TruV K x H' k ∧ Q k H') σ H (decide (a &&& b ≠ 0)) := et_is (et_int (ev_band ha hb)) (nat_truth _)
def sp_zone_of (_ : PySem.W.Frag) (A : Ad) : Sp := spP fun vs H Y => ∃ pe pp pd t c, vs = [.ref pe, .ref pp, .ref pd] ∧ EasedAt A H pe t ∧ WF t ∧ PrOk t c ∧ H pp = some (.lst (c.map natV)) ∧ H pd = some (.lst (dearV t c t.start)) ∧ Y = fun v _ => ∃ z, v = natV z ∧ ∀ f, z.testBit f = true ↔ Zn t c t.start f
theorem d_zone_of (T : Top K mg A) (F : Fun K "zone_of" "zone_of" s_zone_of f fd) (hf : mg "zone_of" = some (.ref f))  : Def P w K mg base "zone_of" 1 ["eased", "prices", "dears"] (sp_zone_of K A) := by
  refine ⟨f, fd, hf, F.kp, F.binds (fun _ _ _ _ _ _ us hl => match us, hl with | [_, _, _], _ => rfl), F.ok sc_zone_of (fun vs H Q E h => ?_) (fun cdv A' outer s H vs Q E hr h => ?_)⟩
  · obtain ⟨Y, ⟨pe, pp, pd, t, c, rfl, he, hw, hc, hpp, hpd, rfl⟩, k⟩ := h
    rfl
  obtain ⟨Y, ⟨pe, pp, pd, t, c, rfl, he, hw, hc, hpp, hpd, rfl⟩, k⟩ := h
  refine ⟨_, (pss_cons (ps_set (i := 3) sc_zone_of.nd rfl (by first | exact Or.inl rfl | exact Or.inr rfl) pe_int) (pss_cons (ps_set (i := 4) sc_zone_of.nd rfl (by first | exact Or.inl rfl | exact Or.inr rfl) (pe_op op_shl pe_int (pe_fldK (K := K) rfl (pv 0) rfl))) (pss_cons (ps_while PassesOwn.never (pt_cmpR op_ne (pv 4) (pv 3) (nomark _)) (pss_cons (ps_set (i := 3) sc_zone_of.nd rfl (by first | exact Or.inl rfl | exact Or.inr rfl) (pv 4)) (pss_one (ps_for PassesOwn.never rfl (pi_enum (by rfl) T.b_enumerate (pa_cons (pv 2) pa_nil)) (pg_tupK (K := K) (n := 2) rfl rfl (pgs_cons (pg_name (i := 5) sc_zone_of.nd rfl (by first | exact Or.inl rfl | exact Or.inr rfl)) (pgs_cons (pg_name (i := 6) sc_zone_of.nd rfl (by first | exact Or.inl rfl | exact Or.inr rfl)) pgs_nil))) (pss_one (ps_if (PW.pt (pw_and (pt_cmpR op_notN (pv 6) pe_non (nomark _)) (pw_and (pt_cmpR op_eq (pe_ix (ix_listK (K := K) rfl) (pv 1) (pv 5) (fun _ _ => rfl)) pe_int (nomark _)) (pw_and1 (pt_truthK (K := K) rfl (pe_op op_and (pe_ix (ix_listK (K := K) rfl) (pe_fldK (K := K) rfl (pv 0) rfl) (pv 5) (fun _ _ => rfl)) (pv 4)) (by intro _; rfl)))))) (pss_one (ps_set (i := 4) sc_zone_of.nd rfl (by first | exact Or.inl rfl | exact Or.inr rfl) (pe_op op_or (pv 4) (pe_op op_shl pe_int (pv 6))))) pss_nil)))))) (pss_one (ps_ret (pv 4)))))), ?_⟩
  have hf4 := hw.f4
  obtain ⟨ln, lb, hln, hlb, hev⟩ := eased_at T he
  refine q_asg (v := natV 0) ev_c (fun H1 e1 => ?_)
  refine q_asg (v := natV (2 ^ (t.facts + 1))) (ev_shl1 (n := t.facts + 1) (by omega) (((hev _ _ (ev_var rfl)).1).mono e1)) (fun H2 e2 => ?_)
  refine q_while (fun m σ' H' => ∃ (z e : Nat) (o1 o2 : Option V), m = 2 * (2 ^ (t.facts + 2) - z) + (if z = e then 0 else 1) ∧ σ' = [some (.ref pe), some (.ref pp), some (.ref pd), some (natV e), some (natV z), o1, o2] ∧ Ex H H' ∧ ZIs t c t.start z ∧ (e = 0 ∨ z = znext t c t.start e))
    _ ⟨2 ^ (t.facts + 1), 0, none, none, rfl, rfl, e1.trans e2, ZIs.start t c t.start, .inl rfl⟩ (fun m σ' H' ⟨z, e, o1, o2, hm, hσ, e3, hz, hze⟩ => ?_)
  subst hm hσ
  refine ⟨!(z == e), et_test (ev_neN (a := z) (b := e) (ev_var rfl) (ev_var rfl)), fun hb H3 e4 => ?_, fun hb H3 e4 => ?_⟩
  · have hne : z ≠ e := by simpa using hb
    have hle := znext_le (t := t) (c := c) (s := t.start) z
    have hlt := (hz.next hw).lt
    have hzl := hz.lt
    refine ⟨fun σ2 H2 => ∃ o1 o2 : Option V, σ2 = [some (.ref pe), some (.ref pp), some (.ref pd), some (natV z), some (natV (znext t c t.start z)), o1, o2] ∧ Ex H H2, fun σ2 H2 ⟨o1, o2, h1, h2⟩ => ⟨2 * (2 ^ (t.facts + 2) - znext t c t.start z) + (if znext t c t.start z = z then 0 else 1), ?_, znext t c t.start z, z, o1, o2, rfl, h1, h2, hz.next hw, .inr rfl⟩, ?_⟩
    · rw [if_neg hne]
      by_cases q : znext t c t.start z = z
      · rw [if_pos q]
        omega
      · rw [if_neg q]
        omega
    refine q_asg (ev_var rfl) (fun H4 e5 => ?_)
    have e45 := (e3.trans e4).trans e5
    refine s_forE (xs := dearV t c t.start) (ev_var rfl) (e45 _ _ hpd) (fun i σ' H' => ∃ o1 o2 : Option V, σ' = [some (.ref pe), some (.ref pp), some (.ref pd), some (natV z), some (natV (zpass t c t.start z i)), o1, o2] ∧ Ex H H') (fun H5 e6 => ⟨o1, o2, rfl, e45.trans e6⟩) (fun i σ' H' _ ⟨_, _, _, e6⟩ => sq_of (e6 _ _ hpd)) (fun i x σ' H' H'' hi ⟨o1, o2, hσ, e6⟩ e7 => ?_) (fun σ' H' ⟨o1, o2, hσ, e6⟩ => ?_)
    · subst hσ
      have hi2 := (List.getElem?_eq_some_iff.mp hi).1
      rw [dearV_len] at hi2
      rw [dearV_get hi2] at hi
      cases (Option.some.inj hi)
      have e8 := e6.trans e7
      have hc2 : (c.map natV)[i]? = some (natV (c.getD i 0)) := by
        rw [List.getElem?_map, List.getD_eq_getElem?_getD, List.getElem?_eq_getElem (by rw [hc.len]; exact hi2)]
        rfl
      cases q : dearK t c t.start i with
      | none =>
        refine s_when (b := false) (et_and (a := false) (b := false) (et_is (et_test (ev_notN (ev_var rfl))) rfl) (fun h => by cases h)) (fun hb => by cases hb) (fun hb H5 e9 => ⟨some (natV i), some (optV none), ?_, e8.trans e9⟩)
        rw [zpass_eq_none q]
        rfl
      | some x =>
        have hx : x ≤ t.facts := dearK_le (by rw [steps_len]; exact hi2) q
        have hbr : ∀ (σ : L2.St) (ta tb : TE), Ev ta σ H (.ref pe) → Ev tb σ H'' (natV i) → Ev (tOp (rIxL K) (tFld K ta "brings") tb) σ H'' (natV (bringM t i)) := fun σ ta tb ha hb => ev_ixN (((hev _ _ ha).2.2.2).mono e8) hb (e8 _ _ hlb) (bringV_get hi2)
        refine s_when (b := true && ((c.getD i 0 == 0) && decide (bringM t i &&& zpass t c t.start z i ≠ 0))) (et_and (et_is (et_test (ev_notN (ev_var rfl))) rfl) (fun _ => et_and (et_test (ev_eqN (a := c.getD i 0) (b := 0) (ev_ixN (ev_var rfl) (ev_var rfl) (e8 _ _ hpp) hc2) ev_c)) (fun _ => et_and0 (hbr _ _ _ (ev_var rfl) (ev_var rfl)) (ev_var rfl)))) (fun hb H5 e9 => ?_) (fun hb H5 e9 => ?_)
        · have hb : c.getD i 0 = 0 ∧ bringM t i &&& zpass t c t.start z i ≠ 0 := by simpa using hb
          refine s_asg (v := natV (zpass t c t.start z i ||| 2 ^ x)) (ev_orBit (by omega) (ev_var rfl) (ev_var rfl)) (fun H6 e10 => ⟨some (natV i), some (optV (some x)), ?_, (e8.trans e9).trans e10⟩)
          rw [zpass_eq_some q, if_pos hb]
          rfl
        · have hb : ¬ (c.getD i 0 = 0 ∧ bringM t i &&& zpass t c t.start z i ≠ 0) := by simpa using hb
          refine ⟨some (natV i), some (optV (some x)), ?_, e8.trans e9⟩
          rw [zpass_eq_some q, if_neg hb]
          rfl
    · subst hσ
      rw [dearV_len]
      refine ⟨o1, o2, ?_, e6⟩
      unfold znext
      rw [steps_len]
  · have he2 : z = e := by simpa using hb
    have hz0 : znext t c t.start z = z := by
      rcases hze with q | q
      · have := hz.en
        rw [he2, q, Nat.zero_testBit] at this
        cases this
      · rw [← he2] at q
        exact q.symm
    exact s_ret (ev_var rfl) (fun H4 e5 => k _ _ ((e3.trans e4).trans e5) ⟨z, rfl, hz.done hw hz0⟩)
/-- dear is not None and it is in the group -/
def amongB (o : Option Nat) (g : Nat) : Bool := match o with
  | none => false
  | some f => g.testBit f
def sp_is_among (_ : PySem.W.Frag) (_ : Ad) : Sp := spV fun vs _ z => ∃ o g, vs = [optV o, natV g] ∧ z = .bl (amongB o g)
theorem d_is_among (T : Top K mg A) (F : Fun K "is_among" "is_among" s_is_among f fd) (hf : mg "is_among" = some (.ref f))  : Def P w K mg base "is_among" 1 ["dear", "group"] (sp_is_among K A) := by
  refine ⟨f, fd, hf, F.kp, F.binds (fun _ _ _ _ _ _ us hl => match us, hl with | [_, _], _ => rfl), F.ok sc_is_among (fun vs H Q E h => ?_) (fun cdv A' outer s H vs Q E hr h => ?_)⟩
  · obtain ⟨z, ⟨o, g, rfl, rfl⟩, k⟩ := h
    rfl
  obtain ⟨z, ⟨o, g, rfl, rfl⟩, k⟩ := h
  refine ⟨_, (pss_one (ps_ret (pe_and (pe_cmpR op_notN (pv 0) pe_non (nomark _)) (pe_one (pe_cmpR op_eq (pe_op op_and (pe_op op_shr (pv 1) (pv 0)) pe_int) pe_int (nomark _)))))), ?_⟩
  refine s_ret (v := .bl (amongB o g)) ?_ (fun H1 e => k.go e)
  cases o with
  | none => exact ev_is (ev_andV (a := false) (b := false) (ev_is (ev_notN (ev_var rfl)) rfl) (fun h => by cases h)) rfl
  | some x =>
    refine ev_is (ev_andV (a := true) (b := g / 2 ^ x % 2 == 1) (ev_is (ev_notN (ev_var rfl)) rfl) (fun _ => ev_eqN (a := g / 2 ^ x % 2) (b := 1) (ev_bitAt (ev_var rfl) (ev_var rfl)) ev_c)) ?_
    show V.bl (g / 2 ^ x % 2 == 1) = V.bl (g.testBit x)
    rw [← bit_eq]
    rfl
theorem spv_among {H : Hp} {o : Option Nat} {g : Nat} : SpV (sp_is_among K A) [optV o, natV g] H (.bl (amongB o g)) := spV_of fun H1 e => ⟨o, g, rfl, rfl⟩
def sp_before_zone (_ : PySem.W.Frag) (A : Ad) : Sp := spP fun vs H Y => ∃ pe z pd t c, vs = [.ref pe, natV z, .ref pd] ∧ EasedAt A H pe t ∧ WF t ∧ H pd = some (.lst (dearV t c t.start)) ∧ (∀ f, z.testBit f = true ↔ Zn t c t.start f) ∧ Y = fun v _ => ∃ b, v = natV b ∧ ∀ f, b.testBit f = true ↔ Bf t c t.start f
theorem d_before_zone (T : Top K mg A) (F : Fun K "before_zone" "before_zone" s_before_zone f fd) (hf : mg "before_zone" = some (.ref f)) (D_is_among : Def P w K mg base "is_among" 1 ["dear", "group"] (sp_is_among K A)) : Def P w K mg base "before_zone" 2 ["eased", "zone", "dears"] (sp_before_zone K A) := by
  obtain ⟨f_is_among, fd_is_among, g_is_among, k_is_among, b_is_among, G_is_among⟩ := D_is_among
  refine ⟨f, fd, hf, F.kp, F.binds (fun _ _ _ _ _ _ us hl => match us, hl with | [_, _, _], _ => rfl), F.ok sc_before_zone (fun vs H Q E h => ?_) (fun cdv A' outer s H vs Q E hr h => ?_)⟩
  · obtain ⟨Y, ⟨pe, z, pd, t, c, rfl, he, hw, hpd, hz, rfl⟩, k⟩ := h
    rfl
  obtain ⟨Y, ⟨pe, z, pd, t, c, rfl, he, hw, hpd, hz, rfl⟩, k⟩ := h
  refine ⟨_, (pss_cons (ps_set (i := 3) sc_before_zone.nd rfl (by first | exact Or.inl rfl | exact Or.inr rfl) pe_int) (pss_cons (ps_set (i := 4) sc_before_zone.nd rfl (by first | exact Or.inl rfl | exact Or.inr rfl) (pe_fldK (K := K) rfl (pv 0) rfl)) (pss_cons (ps_while PassesOwn.never (pt_cmpR op_ne (pv 4) (pv 3) (nomark _)) (pss_cons (ps_set (i := 3) sc_before_zone.nd rfl (by first | exact Or.inl rfl | exact Or.inr rfl) (pv 4)) (pss_one (ps_for PassesOwn.never rfl (pi_enum (by rfl) T.b_enumerate (pa_cons (pv 2) pa_nil)) (pg_tupK (K := K) (n := 2) rfl rfl (pgs_cons (pg_name (i := 5) sc_before_zone.nd rfl (by first | exact Or.inl rfl | exact Or.inr rfl)) (pgs_cons (pg_name (i := 6) sc_before_zone.nd rfl (by first | exact Or.inl rfl | exact Or.inr rfl)) pgs_nil))) (pss_one (ps_if (pt_val (pe_call G_is_among (hr.mono (by decide)) rfl g_is_among k_is_among b_is_among .nil pass0 (pa_cons (pv 6) (pa_cons (pv 4) pa_nil)))) (pss_one (ps_set (i := 4) sc_before_zone.nd rfl (by first | exact Or.inl rfl | exact Or.inr rfl) (pe_op op_or (pv 4) (pe_op op_and (pe_ix (ix_listK (K := K) rfl) (pe_fldK (K := K) rfl (pv 0) rfl) (pv 5) (fun _ _ => rfl)) (pe_un un_inv (pv 1)))))) pss_nil)))))) (pss_one (ps_ret (pv 4)))))), ?_⟩
  have hf4 := hw.f4
  obtain ⟨ln, lb, hln, hlb, hev⟩ := eased_at T he
  refine q_asg (v := natV 0) ev_c (fun H1 e1 => ?_)
  refine q_asg (v := natV (t.start ||| 2 ^ t.facts)) (((hev _ _ (ev_var rfl)).2.1).mono e1) (fun H2 e2 => ?_)
  have hpos : ∀ b, BIs t c t.start b → b ≠ 0 := fun b hb q => by
    have := hb.so t.facts (by unfold soB; simp)
    rw [q, Nat.zero_testBit] at this
    cases this
  refine q_while (fun m σ' H' => ∃ (b e : Nat) (o1 o2 : Option V), m = 2 * (2 ^ (t.facts + 2) - b) + (if b = e then 0 else 1) ∧ σ' = [some (.ref pe), some (natV z), some (.ref pd), some (natV e), some (natV b), o1, o2] ∧ Ex H H' ∧ BIs t c t.start b ∧ (e = 0 ∨ b = bnext t c t.start z e))
    _ ⟨t.start ||| 2 ^ t.facts, 0, none, none, rfl, rfl, e1.trans e2, BIs.start c hw.st, .inl rfl⟩ (fun m σ' H' ⟨b, e, o1, o2, hm, hσ, e3, hbi, hbe⟩ => ?_)
  subst hm hσ
  refine ⟨!(b == e), et_test (ev_neN (a := b) (b := e) (ev_var rfl) (ev_var rfl)), fun hb H3 e4 => ?_, fun hb H3 e4 => ?_⟩
  · have hne : b ≠ e := by simpa using hb
    have hle := bnext_le (t := t) (c := c) (s := t.start) z b
    have hlt := (hbi.next hw hz).lt
    have hbl := hbi.lt
    refine ⟨fun σ2 H2 => ∃ o1 o2 : Option V, σ2 = [some (.ref pe), some (natV z), some (.ref pd), some (natV b), some (natV (bnext t c t.start z b)), o1, o2] ∧ Ex H H2, fun σ2 H2 ⟨o1, o2, h1, h2⟩ => ⟨2 * (2 ^ (t.facts + 2) - bnext t c t.start z b) + (if bnext t c t.start z b = b then 0 else 1), ?_, bnext t c t.start z b, b, o1, o2, rfl, h1, h2, hbi.next hw hz, .inr rfl⟩, ?_⟩
    · rw [if_neg hne]
      by_cases q : bnext t c t.start z b = b
      · rw [if_pos q]
        omega
      · rw [if_neg q]
        omega
    refine q_asg (ev_var rfl) (fun H4 e5 => ?_)
    have e45 := (e3.trans e4).trans e5
    refine s_forE (xs := dearV t c t.start) (ev_var rfl) (e45 _ _ hpd) (fun i σ' H' => ∃ o1 o2 : Option V, σ' = [some (.ref pe), some (natV z), some (.ref pd), some (natV b), some (natV (bpass t c t.start z b i)), o1, o2] ∧ Ex H H') (fun H5 e6 => ⟨o1, o2, rfl, e45.trans e6⟩) (fun i σ' H' _ ⟨_, _, _, e6⟩ => sq_of (e6 _ _ hpd)) (fun i x σ' H' H'' hi ⟨o1, o2, hσ, e6⟩ e7 => ?_) (fun σ' H' ⟨o1, o2, hσ, e6⟩ => ?_)
    · subst hσ
      have hi2 := (List.getElem?_eq_some_iff.mp hi).1
      rw [dearV_len] at hi2
      rw [dearV_get hi2] at hi
      cases (Option.some.inj hi)
      have e8 := e6.trans e7
      refine s_when (b := amongB (dearK t c t.start i) (bpass t c t.start z b i)) (et_B (ev_call (ea_cons (ev_var rfl) (ea_cons (ev_var rfl) ea_nil)) spv_among)) (fun hb2 H5 e9 => ?_) (fun hb2 H5 e9 => ?_)
      · cases q : dearK t c t.start i with
        | none =>
          rw [q] at hb2
          cases hb2
        | some x =>
          rw [q] at hb2
          have hb2 : (bpass t c t.start z b i).testBit x = true := hb2
          have hbr : ∀ (σ : L2.St) (ta tb : TE), Ev ta σ H (.ref pe) → Ev tb σ H5 (natV i) → Ev (tOp (rIxL K) (tFld K ta "brings") tb) σ H5 (natV (bringM t i)) := fun σ ta tb ha hb => ev_ixN (((hev _ _ ha).2.2.2).mono (e8.trans e9)) hb ((e8.trans e9) _ _ hlb) (bringV_get hi2)
          refine s_asg (v := natV (bpass t c t.start z b i ||| (bringM t i - (bringM t i &&& z)))) (ev_bor (a := bpass t c t.start z b i) (ev_var rfl) (ev_bandNot (a := bringM t i) (b := z) (hbr _ _ _ (ev_var rfl) (ev_var rfl)) (ev_var rfl))) (fun H6 e10 => ⟨some (natV i), some (optV (some x)), ?_, (e8.trans e9).trans e10⟩)
          rw [bpass_eq_some q, if_pos hb2]
          rfl
      · refine ⟨some (natV i), some (optV (dearK t c t.start i)), ?_, e8.trans e9⟩
        cases q : dearK t c t.start i with
        | none =>
          rw [bpass_eq_none q]
          rfl
        | some x =>
          rw [q] at hb2
          have hb2 : (bpass t c t.start z b i).testBit x = false := hb2
          rw [bpass_eq_some q, if_neg (by rw [hb2]; decide)]
          rfl
    · subst hσ
      rw [dearV_len]
      refine ⟨o1, o2, ?_, e6⟩
      unfold bnext
      rw [steps_len]
  · have he2 : b = e := by simpa using hb
    have hb0 : bnext t c t.start z b = b := by
      rcases hbe with q | q
      · exact absurd (he2.trans q) (hpos b hbi)
      · rw [← he2] at q
        exact q.symm
    exact s_ret (ev_var rfl) (fun H4 e5 => k _ _ ((e3.trans e4).trans e5) ⟨b, rfl, hbi.done hw hz hb0⟩)
end
end PC

set_option Elab.async false
set_option linter.all false
set_option maxRecDepth 100000
set_option maxHeartbeats 2000000
namespace PC
open PySem PySem.Spec PyProof.Rows L2 Evl
section
variable {P : Program} {w : World} {K : PySem.W.Frag} {mg : Str → Option Value} {base : Heap} {A : Ad} {f : Addr} {fd : FuncData}
theorem ev_minN {σ : L2.St} {H : Hp} {te : TE} {ms : List Nat} {M : Nat} (h : EvL te σ H (ms.map natV)) (h1 : M ∈ ms) (h2 : ∀ x ∈ ms, M ≤ x) : Ev (tCB (rMin K) (tCons te tNil)) σ H (natV M) := fun H1 e Q q => h H1 e _ fun p H2 hp e2 h3 =>
  ⟨p, ms.map (fun n : Nat => (n : Int)), rfl, sq_of (by rw [List.map_map]; exact h3), by rw [List.length_map]; exact List.length_pos_of_mem h1, fun m hm hle => by
    obtain ⟨n, hn, rfl⟩ := List.mem_map.mp hm
    have a := hle (M : Int) (List.mem_map.mpr ⟨M, h1, rfl⟩)
    have b := h2 n hn
    have e3 : n = M := by omega
    rw [e3]
    exact q H2 e2⟩
/-- C(..): a new instance, by its __init__ -/
theorem ep_make {σ : L2.St} {H : Hp} {C : Addr} {sp : Sp} {dvs vs : List V} {E : XK} {ta : TA} {Y : V → Hp → Prop} (h : EvA ta σ H vs) (hs : ∀ (H1 : Hp) (x dx : Addr), Ex H H1 → H1 x = none → Ex H1 (upd (upd H1 dx (.own x)) x (.ins C dx [])) → ∀ Q : VK, (∀ H2, Ex H1 H2 → Y (.ref x) H2 → Q (.ref x) H2) → sp (.ref x :: (vs ++ dvs)) (upd (upd H1 dx (.own x)) x (.ins C dx [])) (fun v H2 => v = .non ∧ Q (.ref x) H2) E) :
    EvP (tMake C sp dvs E ta) σ H Y := fun H1 e Q q => h H1 e _ fun H2 e2 x dx hx hdx hne => hs H2 x dx (e.trans e2) hx ((Ex.new hdx).trans (Ex.new (by rw [upd_ne (Ne.symm hne)]; exact hx))) Q fun H3 e3 y => q _ H3 (e2.trans e3) y
theorem given_range {n : Nat} {p : Nat → Bool} : given n p natV = ((List.range n).filter p).map natV := rfl
theorem cutL_le {t : Pn.Task} (hw : WF t) {c : List Nat} {s : Nat} : (cutL t c s).length ≤ 9 := by
  rw [cutL_eq]
  refine Nat.le_trans (List.length_filter_le _ _) ?_
  rw [List.length_range, steps_len]
  have := hw.n8
  omega
def sp_next_cut (_ : PySem.W.Frag) (A : Ad) : Sp := spP fun vs H Y => ∃ pe pp pw t c x, vs = [.ref pe, .ref pp, .ref pw] ∧ EasedAt A H pe t ∧ WF t ∧ PrOk t c ∧ H pp = some (.lst (c.map natV)) ∧ H pw = some (.lst (rowV (t.facts + 2) (wst t c t.start))) ∧ wst t c t.start (t.facts + 1) = some (x + 1) ∧
  Y = fun v H2 => ∃ p la dx m, v = .ref p ∧ H p = none ∧ H la = none ∧ p ≠ la ∧ H2 p = some (.ins A.cut dx (cutF m la)) ∧ H2 la = some (.lst ((cutL t c t.start).map natV)) ∧ CutOk t c t.start m
theorem d_next_cut (T : Top K mg A) (F : Fun K "next_cut" "next_cut" s_next_cut f fd) (hf : mg "next_cut" = some (.ref f)) (D_Cut : DefC P w K mg base "Cut" A.cut 1 ["self", "worth", "acts"] (sp_Cut___init__ K A)) (D_is_among : Def P w K mg base "is_among" 1 ["dear", "group"] (sp_is_among K A)) (D_before_zone : Def P w K mg base "before_zone" 2 ["eased", "zone", "dears"] (sp_before_zone K A)) (D_zone_of : Def P w K mg base "zone_of" 1 ["eased", "prices", "dears"] (sp_zone_of K A)) (D_dear_fact : Def P w K mg base "dear_fact" 3 ["needed", "worths"] (sp_dear_fact K A)) : Def P w K mg base "next_cut" 4 ["eased", "prices", "worths"] (sp_next_cut K A) := by
  obtain ⟨f_Cut, fd_Cut, g_Cut, M_Cut, b_Cut, G_Cut⟩ := D_Cut
  obtain ⟨f_is_among, fd_is_among, g_is_among, k_is_among, b_is_among, G_is_among⟩ := D_is_among
  obtain ⟨f_before_zone, fd_before_zone, g_before_zone, k_before_zone, b_before_zone, G_before_zone⟩ := D_before_zone
  obtain ⟨f_zone_of, fd_zone_of, g_zone_of, k_zone_of, b_zone_of, G_zone_of⟩ := D_zone_of
  obtain ⟨f_dear_fact, fd_dear_fact, g_dear_fact, k_dear_fact, b_dear_fact, G_dear_fact⟩ := D_dear_fact
  refine ⟨f, fd, hf, F.kp, F.binds (fun _ _ _ _ _ _ us hl => match us, hl with | [_, _, _], _ => rfl), F.ok sc_next_cut (fun vs H Q E h => ?_) (fun cdv A' outer s H vs Q E hr h => ?_)⟩
  · obtain ⟨Y, ⟨pe, pp, pw, t, c, x, rfl, he, hw, hc, hpp, hpw, hx, rfl⟩, k⟩ := h
    rfl
  obtain ⟨Y, ⟨pe, pp, pw, t, c, x, rfl, he, hw, hc, hpp, hpw, hx, rfl⟩, k⟩ := h
  refine ⟨_, (pss_cons (ps_setLc (i := 3) (own := [("needed", 4)]) rfl sc_next_cut.nd rfl rfl (sw_true rfl rfl rfl (by decide +kernel)) (pi_listK (K := K) rfl (pe_fldK (K := K) rfl (pv 0) rfl)) (blkOk_by (N := N_next_cut) (sc := defScope (top 36)) (by decide +kernel)) (fun _ _ _ _ _ => (pg_name (i := 4) sc_next_cut.nd rfl (by first | exact Or.inl rfl | exact Or.inr rfl))) (fun _ _ _ _ _ => pts_nil) (fun _ _ _ _ _ => (pe_call G_dear_fact (hr.mono (by decide)) rfl g_dear_fact k_dear_fact b_dear_fact .nil pass0 (pa_cons (pv 4) (pa_cons (pv 2) pa_nil))))) (pss_cons (ps_set (i := 5) sc_next_cut.nd rfl (by first | exact Or.inl rfl | exact Or.inr rfl) (pe_call G_zone_of (hr.mono (by decide)) rfl g_zone_of k_zone_of b_zone_of .nil pass0 (pa_cons (pv 0) (pa_cons (pv 1) (pa_cons (pv 3) pa_nil))))) (pss_cons (ps_set (i := 6) sc_next_cut.nd rfl (by first | exact Or.inl rfl | exact Or.inr rfl) (pe_call G_before_zone (hr.mono (by decide)) rfl g_before_zone k_before_zone b_before_zone .nil pass0 (pa_cons (pv 0) (pa_cons (pv 5) (pa_cons (pv 3) pa_nil))))) (pss_cons (ps_setLc (i := 7) (own := [("number", 8), ("dear", 9)]) rfl sc_next_cut.nd rfl rfl (sw_true rfl rfl rfl (by decide +kernel)) (pi_enum (by rfl) T.b_enumerate (pa_cons (pv 3) pa_nil)) (blkOk_by (N := N_next_cut) (sc := defScope (top 36)) (by decide +kernel)) (fun _ _ _ _ _ => (pg_tupK (K := K) (n := 2) rfl rfl (pgs_cons (pg_name (i := 8) sc_next_cut.nd rfl (by first | exact Or.inl rfl | exact Or.inr rfl)) (pgs_cons (pg_name (i := 9) sc_next_cut.nd rfl (by first | exact Or.inl rfl | exact Or.inr rfl)) pgs_nil)))) (fun _ _ _ _ _ => (pts_one (PW.pt (pw_and (pt_val (pe_call G_is_among (hr.mono (by decide)) rfl g_is_among k_is_among b_is_among .nil pass0 (pa_cons (pv 9) (pa_cons (pv 6) pa_nil)))) (pw_and1 (pt_truthK (K := K) rfl (pe_op op_and (pe_ix (ix_listK (K := K) rfl) (pe_fldK (K := K) rfl (pv 0) rfl) (pv 8) (fun _ _ => rfl)) (pv 5)) (by intro _; rfl))))))) (fun _ _ _ _ _ => (pv 8))) (pss_one (ps_ret (pe_make M_Cut G_Cut (hr.mono (by decide)) rfl g_Cut b_Cut .nil pass0 (pa_cons (pe_callB (cr_min rfl) (by rfl) T.b_min (by decide +kernel) (pa_cons (pe_lc (own := [("number", 8)]) rfl sc_next_cut.nd (pi_listK (K := K) rfl (pv 7)) (blkOk_by (N := N_next_cut) (sc := defScope (top 36)) (by decide +kernel)) (fun _ _ _ _ _ => (pg_name (i := 8) sc_next_cut.nd rfl (by first | exact Or.inl rfl | exact Or.inr rfl))) (fun _ _ _ _ _ => pts_nil) (fun _ _ _ _ _ => (pe_ix (ix_listK (K := K) rfl) (pv 1) (pv 8) (fun _ _ => rfl)))) pa_nil)) (pa_cons (pv 7) pa_nil))))))))), ?_⟩
  have hf4 := hw.f4
  have hn8 := hw.n8
  obtain ⟨ln, lb, hln, hlb, hev⟩ := eased_at T he
  refine q_asgL (xs := dearV t c t.start) (el_map (by rw [dearV_len, needV_len]) ((hev _ _ (ev_var rfl)).2.2.1) hln (by rw [needV_len]; omega) (fun _ => rfl) (fun i y z H1 e1 hi hz => ?_)) (fun pd H1 hpd e1 h1 => ?_)
  · have hi2 := (List.getElem?_eq_some_iff.mp hi).1
    rw [needV_len] at hi2
    rw [needV_get hi2] at hi
    rw [dearV_get hi2] at hz
    cases (Option.some.inj hi)
    cases (Option.some.inj hz)
    have hst : i < (Pn03.steps t).length := by rw [steps_len]; exact hi2
    refine ev_call (ea_cons (ev_var rfl) (ea_cons (ev_var rfl) ea_nil)) (spV_of fun H2 e2 => ⟨needM t i, pw, t.facts + 2, wst t c t.start, rfl, e2 _ _ (e1 _ _ hpw), ?_, by omega, ?_, ?_⟩)
    · exact Nat.lt_trans (needM_lt hw) (Nat.pow_lt_pow_right (by decide) (by omega))
    · rw [bitsOf_pre hw hi2]
      exact (stp_ok hst).ne
    · rw [bitsOf_pre hw hi2]
      rfl
  refine q_asgP (Y := fun v _ => ∃ z, v = natV z ∧ ∀ f, z.testBit f = true ↔ Zn t c t.start f) (ep_call (ea_cons (ev_var rfl) (ea_cons (ev_var rfl) (ea_cons (ev_var rfl) ea_nil))) (spP_of fun H2 e2 => ⟨pe, pp, pd, t, c, rfl, he.mono (e1.trans e2), hw, hc, e2 _ _ (e1 _ _ hpp), e2 _ _ h1, rfl⟩)) (fun v H2 e2 ⟨z, hv, hz⟩ => ?_)
  subst hv
  refine q_asgP (Y := fun v _ => ∃ b, v = natV b ∧ ∀ f, b.testBit f = true ↔ Bf t c t.start f) (ep_call (ea_cons (ev_var rfl) (ea_cons (ev_var rfl) (ea_cons (ev_var rfl) ea_nil))) (spP_of fun H3 e3 => ⟨pe, z, pd, t, c, rfl, he.mono ((e1.trans e2).trans e3), hw, e3 _ _ (e2 _ _ h1), hz, rfl⟩)) (fun v H3 e3 ⟨b, hv, hb⟩ => ?_)
  subst hv
  have e13 := (e1.trans e2).trans e3
  have hcut := picks_eq hw hz hb
  refine q_asgL (xs := (cutL t c t.start).map natV) ?_ (fun pa H4 hpa e4 h4 => ?_)
  · rw [← hcut, steps_len, ← dearV_len t c t.start]
    refine el_lcE (picks t c t.start z b) natV (ev_var rfl) (e3 _ _ (e2 _ _ h1)) (by rw [dearV_len]; omega) (fun _ _ => rfl) (fun i y H4 e4 hi => ?_) (fun i y H4 e4 hi _ => ev_var rfl)
    have hi2 := (List.getElem?_eq_some_iff.mp hi).1
    rw [dearV_len] at hi2
    rw [dearV_get hi2] at hi
    cases (Option.some.inj hi)
    have hbr : ∀ (σ : L2.St) (ta tb : TE), Ev ta σ H (.ref pe) → Ev tb σ H4 (natV i) → Ev (tOp (rIxL K) (tFld K ta "brings") tb) σ H4 (natV (bringM t i)) := fun σ ta tb ha hb => ev_ixN (((hev _ _ ha).2.2.2).mono (e13.trans e4)) hb ((e13.trans e4) _ _ hlb) (bringV_get hi2)
    refine et_is (et_and (b := decide (bringM t i &&& z ≠ 0)) (et_B (ev_call (ea_cons (ev_var rfl) (ea_cons (ev_var rfl) ea_nil)) spv_among)) (fun _ => et_and0 (hbr _ _ _ (ev_var rfl) (ev_var rfl)) (ev_var rfl))) ?_
    unfold picks amongB
    cases dearK t c t.start i with
    | none => rfl
    | some y => rfl
  obtain ⟨m, hm⟩ := cut_ok_ex hx
  have hmem : m ∈ (cutL t c t.start).map fun i => c.getD i 0 := by
    obtain ⟨i, hi, e⟩ := hm.mem
    exact List.mem_map.mpr ⟨i, hi, e⟩
  have hle : ∀ y ∈ (cutL t c t.start).map (fun i => c.getD i 0), m ≤ y := fun y hy => by
    obtain ⟨i, hi, rfl⟩ := List.mem_map.mp hy
    exact hm.le i hi
  have hcl := cutL_le hw (c := c) (s := t.start)
  have e14 := e13.trans e4
  -- Cut(min([prices[number] for number in acts]), acts)
  refine s_retP (Y := fun v H2 => ∃ p la dx m, v = .ref p ∧ H p = none ∧ H la = none ∧ p ≠ la ∧ H2 p = some (.ins A.cut dx (cutF m la)) ∧ H2 la = some (.lst ((cutL t c t.start).map natV)) ∧ CutOk t c t.start m) (ep_make (ea_cons (ev_minN (ms := (cutL t c t.start).map fun i => c.getD i 0) (el_map (by rw [List.length_map, List.length_map, List.length_map]) (ev_var rfl) h4 (by rw [List.length_map]; omega) (fun _ => rfl) (fun i y v H5 e5 hy hv => ?_)) hmem hle) (ea_cons (ev_var rfl) ea_nil)) (fun H5 p dx e5 hp e6 Q2 q2 => ?_)) (fun v H5 e5 y => k v H5 (e14.trans e5) y)
  · rw [List.getElem?_map] at hy hv
    rw [List.getElem?_map] at hv
    cases q : (cutL t c t.start)[i]? with
    | none => rw [q] at hy; cases hy
    | some j =>
      rw [q] at hy hv
      cases (Option.some.inj hy)
      cases (Option.some.inj hv)
      have hj := (cut_lt hc hx (List.mem_of_getElem? q)).1
      refine ev_ixN (ev_var rfl) (ev_var rfl) ((e14.trans e5) _ _ hpp) ?_
      show (c.map natV)[j]? = some (natV (c.getD j 0))
      rw [List.getElem?_map, List.getD_eq_getElem?_getD, List.getElem?_eq_getElem (by rw [hc.len]; omega)]
      rfl
  · refine ⟨H5, p, dx, pa, m, rfl, hp, e6, upd_same, fun H6 e7 h6 => ⟨rfl, ?_⟩⟩
    refine q2 H6 e7 ⟨p, pa, dx, m, rfl, fresh_back (e14.trans e5) hp, fresh_back e13 hpa, fun z => ?_, h6, e7 _ _ (e5 _ _ h4), hm⟩
    rw [z, e5 _ _ h4] at hp
    cases hp
/-- all cuts -/
def CutsAt (A : Ad) (H : Hp) (p : Addr) (cs : List (Nat × List Nat)) : Prop := ∃ ps : List Addr, H p = some (.lst (ps.map V.ref)) ∧ F2 (fun q x => CutAt A H q x) ps cs
theorem cuts_ex {H H' : Hp} (e : Ex H H') {ps : List Addr} {cs : List (Nat × List Nat)} (h : F2 (fun q x => CutAt A H q x) ps cs) : F2 (fun q x => CutAt A H' q x) ps cs := h.imp fun _ _ q => q.ex e
def sp_find_cuts (_ : PySem.W.Frag) (A : Ad) : Sp := spP fun vs H Y => ∃ pt t, vs = [.ref pt] ∧ TaskAt A H pt t ∧ WF t ∧ Y = fun v H2 => (Pn03.cutsOf t t.start = none ∧ v = .non) ∨ ∃ p cs, Pn03.cutsOf t t.start = some cs ∧ v = .ref p ∧ CutsAt A H2 p cs ∧ cs.length ≤ 9 ∧ ∀ x ∈ cs, x.2.length ≤ 9
/-- prices[number] -= cut.worth for all acts of the cut so far -/
def lowUp (c : List Nat) (l : List Nat) (m : Nat) : List Nat := l.foldl (fun c i => c.set i (c.getD i 0 - m)) c
theorem lowUp_len (m : Nat) : ∀ (l c : List Nat), (lowUp c l m).length = c.length
  | [], c => rfl
  | a :: l, c => by
    show (lowUp (c.set a (c.getD a 0 - m)) l m).length = _
    rw [lowUp_len m l, List.length_set]
theorem set_getD (c : List Nat) (a x j : Nat) (h : a < c.length) : (c.set a x).getD j 0 = if j = a then x else c.getD j 0 := by
  rw [List.getD_eq_getElem?_getD, List.getElem?_set]
  by_cases q : a = j
  · subst q
    rw [if_pos rfl, if_pos h, if_pos rfl]
    rfl
  · rw [if_neg q, if_neg (fun z => q z.symm), List.getD_eq_getElem?_getD]
theorem lowUp_get (m : Nat) : ∀ (l c : List Nat), l.Nodup → (∀ i ∈ l, i < c.length) → ∀ j, (lowUp c l m).getD j 0 = if l.contains j = true then c.getD j 0 - m else c.getD j 0
  | [], c, _, _, j => rfl
  | a :: l, c, nd, lt, j => by
    obtain ⟨na, nd⟩ := List.nodup_cons.mp nd
    have ha := lt a (List.mem_cons_self ..)
    show (lowUp (c.set a (c.getD a 0 - m)) l m).getD j 0 = _
    rw [lowUp_get m l _ nd (fun i hi => by rw [List.length_set]; exact lt i (List.mem_cons_of_mem _ hi)), set_getD _ _ _ _ ha, List.contains_cons]
    by_cases q : j = a
    · subst q
      have : l.contains j = false := by
        cases r : l.contains j with
        | false => rfl
        | true => exact absurd (List.contains_iff_mem.mp r) na
      rw [this, if_neg (by decide), if_pos rfl]
      simp
    · rw [if_neg q]
      have : (j == a) = false := beq_eq_false_iff_ne.mpr q
      rw [this, Bool.false_or]
theorem lowUp_eq {c l : List Nat} (m : Nat) (nd : l.Nodup) (lt : ∀ i ∈ l, i < c.length) : lowUp c l m = lower c l m := by
  refine List.ext_getElem? fun i => ?_
  by_cases h : i < c.length
  · have a := lowUp_get m l c nd lt i
    have b := lower_get (c := c) (k := l) (m := m) (i := i)
    rw [← b] at a
    rw [List.getD_eq_getElem?_getD, List.getD_eq_getElem?_getD, List.getElem?_eq_getElem (by rw [lowUp_len]; exact h), List.getElem?_eq_getElem (by rw [lower_len]; exact h)] at a
    rw [List.getElem?_eq_getElem (by rw [lowUp_len]; exact h), List.getElem?_eq_getElem (by rw [lower_len]; exact h)]
    exact congrArg some a
  · rw [List.getElem?_eq_none (by rw [lowUp_len]; omega), List.getElem?_eq_none (by rw [lower_len]; omega)]
theorem sorted_nodup {l : List Nat} (h : l.Pairwise (· < ·)) : l.Nodup := h.imp fun h => by omega
theorem lowUp_take {c l : List Nat} {m i x : Nat} (h : l[i]? = some x) : lowUp c (l.take (i + 1)) m = (lowUp c (l.take i) m).set x ((lowUp c (l.take i) m).getD x 0 - m) := by
  unfold lowUp
  rw [List.take_succ, h, List.foldl_append]
  rfl
theorem lowUp_ge {c l : List Nat} {m i x : Nat} (nd : l.Nodup) (lt : ∀ i ∈ l, i < c.length) (h : l[i]? = some x) : (lowUp c (l.take i) m).getD x 0 = c.getD x 0 := by
  rw [lowUp_get m _ c (List.Nodup.sublist (List.take_sublist _ _) nd) (fun j hj => lt j (List.mem_of_mem_take hj))]
  have : (l.take i).contains x = false := by
    cases r : (l.take i).contains x with
    | false => rfl
    | true =>
      have hm := List.contains_iff_mem.mp r
      obtain ⟨j, hj⟩ := List.getElem?_of_mem hm
      have hj2 := (List.getElem?_eq_some_iff.mp hj).1
      rw [List.length_take] at hj2
      rw [List.getElem?_take_of_lt (by omega)] at hj
      have := nd_ix nd hj h
      omega
  rw [this, if_neg (by decide)]
/-- xs[i] -= e -/
theorem s_subL {σ : L2.St} {H : Hp} {ta tb te : TE} {D : Ends} {l : Addr} {xs : List V} {j a b : Nat} (hl : H l = some (.lst xs)) (ha : Ev ta σ H (.ref l)) (hi : Ev tb σ H (natV j)) (hx : xs[j]? = some (natV a)) (h : Ev te σ H (natV b)) (hab : b ≤ a) (k : ∀ H1, Ex H H1 → D.nx σ (upd H1 l (.lst (xs.set j (natV (a - b)))))) :
    tAugS ta tb te (rIxL K) (ipI fun i j => i - j) rSetL D σ H := ha H (Ex.refl H) _ fun H1 e1 => hi H1 e1 _ fun H2 e2 =>
  ⟨l, xs, (j : Int), natV a, rfl, rfl, sq_of ((e1.trans e2) _ _ hl), atI_nat hx, h H2 (e1.trans e2) _ fun H3 e3 => ⟨(a : Int), (b : Int), rfl, rfl, l, xs, (j : Int), j, rfl, rfl, ((e1.trans e2).trans e3) _ _ hl, ixN_nat (List.getElem?_eq_some_iff.mp hx).1, by
    have e4 : V.int ((a : Int) - (b : Int)) = natV (a - b) := by
      unfold natV
      rw [Int.ofNat_sub hab]
    rw [e4]
    exact k H3 ((e1.trans e2).trans e3)⟩⟩
theorem cut_at (T : Top K mg A) {H : Hp} {p : Addr} {x : Nat × List Nat} (h : CutAt A H p x) : ∃ la : Addr, H la = some (.lst (x.2.map natV)) ∧ ∀ (ta : TE) (σ : L2.St), Ev ta σ H (.ref p) → Ev (tFld K ta "worth") σ H (natV x.1) ∧ Ev (tFld K ta "acts") σ H (.ref la) := by
  obtain ⟨dx, la, h1, h2⟩ := h
  exact ⟨la, h2, fun ta σ ha => ⟨ev_fld ha h1 T.cCut T.nWorth lk_here, ev_fld ha h1 T.cCut T.nCActs (lk_past (by decide +kernel) lk_here)⟩⟩
theorem prices_list (t : Pn.Task) : t.acts.map (fun a => natV a.cost) ++ [natV 0] = (Pn03.prices t).map natV := by
  unfold Pn03.prices
  rw [List.map_append, List.map_map]
  rfl
theorem set_map (c : List Nat) (j x : Nat) : (c.map natV).set j (natV x) = (c.set j x).map natV := (List.map_set ..).symm
theorem d_find_cuts (T : Top K mg A) (F : Fun K "find_cuts" "find_cuts" s_find_cuts f fd) (hf : mg "find_cuts" = some (.ref f)) (D_fact_worths : Def P w K mg base "fact_worths" 4 ["eased", "prices"] (sp_fact_worths K A)) (D_next_cut : Def P w K mg base "next_cut" 4 ["eased", "prices", "worths"] (sp_next_cut K A)) (D_Eased : DefC P w K mg base "Eased" A.eased 1 ["self", "task"] (sp_Eased___init__ K A)) : Def P w K mg base "find_cuts" 5 ["task"] (sp_find_cuts K A) := by
  obtain ⟨f_fact_worths, fd_fact_worths, g_fact_worths, k_fact_worths, b_fact_worths, G_fact_worths⟩ := D_fact_worths
  obtain ⟨f_next_cut, fd_next_cut, g_next_cut, k_next_cut, b_next_cut, G_next_cut⟩ := D_next_cut
  obtain ⟨f_Eased, fd_Eased, g_Eased, M_Eased, b_Eased, G_Eased⟩ := D_Eased
  refine ⟨f, fd, hf, F.kp, F.binds (fun _ _ _ _ _ _ us hl => match us, hl with | [_], _ => rfl), F.ok sc_find_cuts (fun vs H Q E h => ?_) (fun cdv A' outer s H vs Q E hr h => ?_)⟩
  · obtain ⟨Y, ⟨pt, t, rfl, ht, hw, rfl⟩, k⟩ := h
    rfl
  obtain ⟨Y, ⟨pt, t, rfl, ht, hw, rfl⟩, k⟩ := h
  refine ⟨_, (pss_cons (ps_set (i := 1) sc_find_cuts.nd rfl (by first | exact Or.inl rfl | exact Or.inr rfl) (pe_make M_Eased G_Eased (hr.mono (by decide)) rfl g_Eased b_Eased .nil pass0 (pa_cons (pv 0) pa_nil))) (pss_cons (ps_set (i := 2) sc_find_cuts.nd rfl (by first | exact Or.inl rfl | exact Or.inr rfl) (pe_op op_cat (pe_lc (own := [("act", 3)]) rfl sc_find_cuts.nd (pi_listK (K := K) rfl (pe_fldK (K := K) rfl (pv 0) rfl)) (blkOk_by (N := N_find_cuts) (sc := defScope (top 37)) (by decide +kernel)) (fun _ _ _ _ _ => (pg_name (i := 3) sc_find_cuts.nd rfl (by first | exact Or.inl rfl | exact Or.inr rfl))) (fun _ _ _ _ _ => pts_nil) (fun _ _ _ _ _ => (pe_fldK (K := K) rfl (pv 3) rfl))) (pe_lst (pa_cons pe_int pa_nil)))) (pss_cons (ps_set (i := 4) sc_find_cuts.nd rfl (by first | exact Or.inl rfl | exact Or.inr rfl) (pe_call G_fact_worths (hr.mono (by decide)) rfl g_fact_worths k_fact_worths b_fact_worths .nil pass0 (pa_cons (pv 1) (pa_cons (pv 2) pa_nil)))) (pss_cons (ps_if (pt_cmpR op_isN (pe_ix (ix_listK (K := K) rfl) (pv 4) (pe_fldK (K := K) rfl (pv 1) rfl) (fun _ _ => rfl)) pe_non (nomark _)) (pss_one (ps_ret pe_non)) pss_nil) (pss_cons (ps_set (i := 5) sc_find_cuts.nd rfl (by first | exact Or.inl rfl | exact Or.inr rfl) (pe_lst pa_nil)) (pss_cons (ps_while PassesOwn.never (pt_cmpR op_gt (pe_ix (ix_listK (K := K) rfl) (pv 4) (pe_fldK (K := K) rfl (pv 1) rfl) (fun _ _ => rfl)) pe_int (nomark _)) (pss_cons (ps_set (i := 6) sc_find_cuts.nd rfl (by first | exact Or.inl rfl | exact Or.inr rfl) (pe_call G_next_cut (hr.mono (by decide)) rfl g_next_cut k_next_cut b_next_cut .nil pass0 (pa_cons (pv 1) (pa_cons (pv 2) (pa_cons (pv 4) pa_nil))))) (pss_cons (ps_expr (pe_bm PySem.F.plainAttrs_list PySem.F.slot_list_append PySem.F.type_list_append mt_append (pv 5) (pa_cons (pv 6) pa_nil))) (pss_cons (ps_for PassesOwn.never rfl (pi_listK (K := K) rfl (pe_fldK (K := K) rfl (pv 6) rfl)) (pg_name (i := 7) sc_find_cuts.nd rfl (by first | exact Or.inl rfl | exact Or.inr rfl)) (pss_one (ps_augS (pv 2) (pv 7) pget_list (pe_fldK (K := K) rfl (pv 6) rfl) ip_sub set_list))) (pss_one (ps_set (i := 4) sc_find_cuts.nd rfl (by first | exact Or.inl rfl | exact Or.inr rfl) (pe_call G_fact_worths (hr.mono (by decide)) rfl g_fact_worths k_fact_worths b_fact_worths .nil pass0 (pa_cons (pv 1) (pa_cons (pv 2) pa_nil))))))))) (pss_one (ps_ret (pv 5))))))))), ?_⟩
  have hf4 := hw.f4
  have hn8 := hw.n8
  refine q_asgP (Y := fun v H2 => ∃ p, v = .ref p ∧ H p = none ∧ EasedAt A H2 p t) (ep_make (ea_cons (ev_var rfl) ea_nil) (fun H1 p dx e1 hp e2 Q2 q2 => ⟨H1, p, dx, pt, t, rfl, hp, e2, upd_same, ht.mono e1, hw, fun H3 e3 h3 => ⟨rfl, q2 H3 e3 ⟨p, rfl, fresh_back e1 hp, h3⟩⟩⟩)) (fun v H1 e1 ⟨pe, hv, hpe, he⟩ => ?_)
  subst hv
  obtain ⟨la, as, h2, h3, h4, h5⟩ := acts_at T (ht.mono e1)
  have hl : (as.map V.ref).length = t.acts.length := by rw [List.length_map, h3]
  refine q_asgL (xs := (Pn03.prices t).map natV) ?_ (fun pp H2 hpp e2 hp2 => ?_)
  · rw [← prices_list]
    refine el_cat (el_map (by rw [List.length_map, hl]) (h4 _ _ (ev_var rfl)) h2 (by omega) (fun _ => rfl) (fun i x y H5 e5 hx hy => ?_)) (el_lst (ea_cons ev_c ea_nil) (by show 1 ≤ 100000; decide)) (by rw [List.length_map]; show t.acts.length + 1 ≤ _; omega)
    obtain ⟨a, act, rfl, ha, h6⟩ := h5 i x hx
    rw [List.getElem?_map, ha] at hy
    cases (Option.some.inj hy)
    exact ev_cost T (h6.ex e5) (ev_var rfl)
  have e12 := e1.trans e2
  have P0 := prices_ok t
  refine q_asgL (xs := rowV (t.facts + 2) (wst t (Pn03.prices t) t.start)) (el_call (ea_cons (ev_var rfl) (ea_cons (ev_var rfl) ea_nil)) (spL_of fun H3 e3 => ⟨pe, pp, t, Pn03.prices t, rfl, he.mono (e2.trans e3), hw, P0, e3 _ _ hp2, rfl⟩)) (fun pw H3 hpw e3 hw3 => ?_)
  have hix : ∀ (c : List Nat) (pw : Addr) (σ : L2.St) (ta tb : TE) (H4 : Hp), EasedAt A H4 pe t → Ev ta σ H4 (.ref pw) → Ev tb σ H4 (.ref pe) → H4 pw = some (.lst (rowV (t.facts + 2) (wst t c t.start))) → Ev (tOp (rIxL K) ta (tFld K tb "end")) σ H4 (optV (wst t c t.start (t.facts + 1))) := fun c pw σ ta tb H4 he4 ha hb hq => by
    obtain ⟨ln, lb, _, _, hev⟩ := eased_at T he4
    exact ev_ixN (i := t.facts + 1) ha ((hev _ _ hb).1) hq (rowV_get (by omega))
  refine q_when (b := decide (optV (wst t (Pn03.prices t) t.start (t.facts + 1)) = .non)) (et_test (ev_isN (hix _ pw _ _ _ _ (he.mono (e2.trans e3)) (ev_var rfl) (ev_var rfl) hw3))) (fun hb H4 e4 => ?_) (fun hb H4 e4 => ?_)
  · refine s_ret (v := .non) ev_c (fun H5 e5 => k _ _ (((e12.trans e3).trans e4).trans e5) (.inl ⟨?_, rfl⟩))
    rw [cutsOf_eq]
    refine cutsF_none ?_
    cases q : wst t (Pn03.prices t) t.start (t.facts + 1) with
    | none => rfl
    | some m =>
      rw [q] at hb
      cases of_decide_eq_true hb
  have hsome : (wst t (Pn03.prices t) t.start (t.facts + 1)).isSome = true := by
    cases q : wst t (Pn03.prices t) t.start (t.facts + 1) with
    | none =>
      rw [q] at hb
      cases hb
    | some m => rfl
  refine q_asgL (xs := []) (el_lst ea_nil (by decide)) (fun pc H5 hpc e5 h5c => ?_)
  have hppH : H pp = none := fresh_back e1 hpp
  have e14 := (e12.trans e3).trans e4
  have hpcH : H pc = none := fresh_back e14 hpc
  have hne : pc ≠ pp := fun z => by
    rw [z, e4 _ _ (e3 _ _ hp2)] at hpc
    cases hpc
  have hpep : pe ≠ pp := fun z => by
    obtain ⟨_, _, _, q, _⟩ := he.ex
    rw [z, hpp] at q
    cases q
  have hpec : pe ≠ pc := fun z => by
    obtain ⟨_, _, _, q, _⟩ := (he.mono ((e2.trans e3).trans e4)).ex
    rw [z, hpc] at q
    cases q
  have hF0 := cutsOf_eq t t.start
  -- G: what the eased task needs of the heap; the prices and the cuts change
  refine q_while (fun m σ' H' => ∃ (c : List Nat) (pw : Addr) (ps : List Addr) (cs : List (Nat × List Nat)) (o1 o2 : Option V), m = pos c ∧ σ' = [some (.ref pt), some (.ref pe), some (.ref pp), none, some (.ref pw), some (.ref pc), o1, o2] ∧ Ex H1 H' ∧ PrOk t c ∧ H' pp = some (.lst (c.map natV)) ∧ H' pw = some (.lst (rowV (t.facts + 2) (wst t c t.start))) ∧ pw ≠ pp ∧ pw ≠ pc ∧ H' pc = some (.lst (ps.map V.ref)) ∧ F2 (fun q x => ∃ G : Hp, Ex G H' ∧ G pp = none ∧ G pc = none ∧ CutAt A G q x) ps cs ∧ (Pn03.cutsOf t t.start = (cutsF t t.start c).map fun r => cs ++ r) ∧ cs.length + pos c ≤ 9 ∧ ∀ x ∈ cs, x.2.length ≤ 9)
    (pos (Pn03.prices t)) ⟨Pn03.prices t, pw, [], [], none, none, rfl, rfl, ((e2.trans e3).trans e4).trans e5, P0, e5 _ _ (e4 _ _ (e3 _ _ hp2)), e5 _ _ (e4 _ _ hw3), ?_, ?_, h5c, .nil, ?_, ?_, (fun _ h => by cases h)⟩ (fun m σ' H' ⟨c, pw, ps, cs, o1, o2, hm, hσ, e6, hc, hp6, hw6, n1, n2, h6c, hf2, hF, hlen, hsh⟩ => ?_)
  · intro z
    rw [z, hp2] at hpw
    cases hpw
  · intro z
    rw [← z, e4 _ _ hw3] at hpc
    cases hpc
  · rw [hF0]
    cases cutsF t t.start (Pn03.prices t) with
    | none => rfl
    | some r => rfl
  · have := pos_le (Pn03.prices t)
    rw [P0.len] at this
    show 0 + _ ≤ 9
    omega
  subst hm hσ
  have hsome2 := had_end (c' := c) hsome
  obtain ⟨v, hv⟩ := Option.isSome_iff_exists.mp hsome2
  have hgt := hix c pw [some (.ref pt), some (.ref pe), some (.ref pp), none, some (.ref pw), some (.ref pc), o1, o2] (tVar 4) (tVar 1) H' (he.mono e6) (ev_var rfl) (ev_var rfl) hw6
  rw [hv] at hgt
  refine ⟨decide ((0 : Int) < (v : Int)), et_test (ev_op hgt ev_c rv_I0), fun hb2 H7 e7 => ?_, fun hb2 H7 e7 => ?_⟩
  · have hv0 : 0 < v := by
      have := of_decide_eq_true hb2
      omega
    obtain ⟨x, hx⟩ : ∃ x, v = x + 1 := ⟨v - 1, by omega⟩
    rw [hx] at hv
    have hcl := cutL_le hw (c := c) (s := t.start)
    have hnd := sorted_nodup (cutL_sorted (t := t) (c := c) (s := t.start))
    have hltc : ∀ i ∈ cutL t c t.start, i < c.length := fun i hi => by
      have := (cut_lt hc hv hi).1
      rw [hc.len]
      omega
    refine ⟨fun σ2 H2 => ∃ (m : Nat) (pw : Addr) (pq : Addr) (o2 : Option V), CutOk t c t.start m ∧ σ2 = [some (.ref pt), some (.ref pe), some (.ref pp), none, some (.ref pw), some (.ref pc), some (.ref pq), o2] ∧ Ex H1 H2 ∧ H2 pp = some (.lst ((lower c (cutL t c t.start) m).map natV)) ∧ H2 pw = some (.lst (rowV (t.facts + 2) (wst t (lower c (cutL t c t.start) m) t.start))) ∧ pw ≠ pp ∧ pw ≠ pc ∧ H2 pc = some (.lst ((ps ++ [pq]).map V.ref)) ∧ F2 (fun q x => ∃ G : Hp, Ex G H2 ∧ G pp = none ∧ G pc = none ∧ CutAt A G q x) (ps ++ [pq]) (cs ++ [(m, cutL t c t.start)]), fun σ2 H2 ⟨m, pw, pq, o2, g0, g1, g2, g3, g4, g5, g6, g7, g8⟩ => ?_, ?_⟩
    · obtain ⟨P2, l2⟩ := g0.next hc hv
      refine ⟨pos (lower c (cutL t c t.start) m), l2, lower c (cutL t c t.start) m, pw, ps ++ [pq], cs ++ [(m, cutL t c t.start)], some (.ref pq), o2, rfl, g1, g2, P2, g3, g4, g5, g6, g7, g8, ?_, ?_, fun y hy => ?_⟩
      · rw [hF, cutsF_step hc hv g0]
        cases cutsF t t.start (lower c (cutL t c t.start) m) with
        | none => rfl
        | some r => exact congrArg some (by
            show cs ++ ((m, cutL t c t.start) :: r) = cs ++ [(m, cutL t c t.start)] ++ r
            rw [List.append_assoc]
            rfl)
      · rw [List.length_append]
        show cs.length + 1 + _ ≤ 9
        omega
      · rcases List.mem_append.mp hy with hy | hy
        · exact hsh y hy
        · rw [List.mem_singleton.mp hy]
          exact hcl
    refine q_asgP (Y := fun v H2 => ∃ p la dx m, v = .ref p ∧ H7 p = none ∧ H7 la = none ∧ p ≠ la ∧ H2 p = some (.ins A.cut dx (cutF m la)) ∧ H2 la = some (.lst ((cutL t c t.start).map natV)) ∧ CutOk t c t.start m) (ep_call (ea_cons (ev_var rfl) (ea_cons (ev_var rfl) (ea_cons (ev_var rfl) ea_nil))) (fun H8 e8 Q2 q2 E2 => ⟨_, ⟨pe, pp, pw, t, c, x, rfl, he.mono ((e6.trans e7).trans e8), hw, hc, e8 _ _ (e7 _ _ hp6), e8 _ _ (e7 _ _ hw6), hv, rfl⟩, fun v H9 e9 ⟨p, la, dx, m, y1, y2, y3, y4, y5, y6, y7⟩ => q2 v H9 e9 ⟨p, la, dx, m, y1, fresh_back e8 y2, fresh_back e8 y3, y4, y5, y6, y7⟩⟩)) (fun v H8 e8 ⟨pq, la, dx, m, hv8, hpq, hla, hql, hq8, hl8, hok⟩ => ?_)
    subst hv8
    let G8 : Hp := fun b => if b = pq then some (.ins A.cut dx (cutF m la)) else if b = la then some (.lst ((cutL t c t.start).map natV)) else none
    have n_of : ∀ {b d : Addr} {o : HO}, H7 b = none → H7 d = some o → b ≠ d := fun h1 h2 z => by
      rw [z, h2] at h1
      cases h1
    have npp7 := e7 _ _ hp6
    have npc7 := e7 _ _ h6c
    have hGp : G8 pp = none := by
      show (if pp = pq then _ else if pp = la then _ else none) = none
      rw [if_neg (fun z => n_of hpq npp7 z.symm), if_neg (fun z => n_of hla npp7 z.symm)]
    have hGc : G8 pc = none := by
      show (if pc = pq then _ else if pc = la then _ else none) = none
      rw [if_neg (fun z => n_of hpq npc7 z.symm), if_neg (fun z => n_of hla npc7 z.symm)]
    have hGq : G8 pq = some (.ins A.cut dx (cutF m la)) := if_pos rfl
    have hGl : G8 la = some (.lst ((cutL t c t.start).map natV)) := (if_neg (fun z => hql z.symm)).trans (if_pos rfl)
    have hGcut : CutAt A G8 pq (m, cutL t c t.start) := ⟨dx, la, hGq, hGl⟩
    have hGex : Ex G8 H8 := fun b o hbo => by
      by_cases z : b = pq
      · subst z
        rw [hGq] at hbo
        cases (Option.some.inj hbo)
        exact hq8
      · by_cases z2 : b = la
        · subst z2
          rw [hGl] at hbo
          cases (Option.some.inj hbo)
          exact hl8
        · have : G8 b = none := (if_neg z).trans (if_neg z2)
          rw [this] at hbo
          cases hbo
    have e68 := (e6.trans e7).trans e8
    have hps : ps.length ≤ 9 := by
      rw [hf2.len]
      omega
    refine q_app (xs := ps.map V.ref) (e8 _ _ npc7) (ev_var rfl) (ev_var rfl) (by rw [List.length_map]; omega) (fun H9 e9 => ?_)
    have hpcH1 : H1 pc = none := fresh_back ((e2.trans e3).trans e4) hpc
    have eH9 : Ex H1 (upd H9 pc (.lst (ps.map V.ref ++ [.ref pq]))) := Ex.mut (e68.trans e9) hpcH1
    have eG9 : Ex G8 (upd H9 pc (.lst (ps.map V.ref ++ [.ref pq]))) := Ex.mut (hGex.trans e9) hGc
    have hla' := eG9 _ _ hGl
    have hpp9 : (upd H9 pc (.lst (ps.map V.ref ++ [.ref pq]))) pp = some (.lst (c.map natV)) := by
      rw [upd_ne hne.symm]
      exact e9 _ _ (e8 _ _ npp7)
    have hf9 : F2 (fun q x => ∃ G : Hp, Ex G (upd H9 pc (.lst (ps.map V.ref ++ [.ref pq]))) ∧ G pp = none ∧ G pc = none ∧ CutAt A G q x) (ps ++ [pq]) (cs ++ [(m, cutL t c t.start)]) := F2.app (hf2.imp fun q x ⟨G, g1, g2, g3, g4⟩ => ⟨G, Ex.mut (((g1.trans e7).trans e8).trans e9) g3, g2, g3, g4⟩) (.cons ⟨G8, eG9, hGp, hGc, hGcut⟩ .nil)
    refine q_forLn (xs := (cutL t c t.start).map natV) (ev_fld (ev_var rfl) (eG9 _ _ hGq) T.cCut T.nCActs (lk_past (by decide +kernel) lk_here)) (sq_of hla') (fun i σ' H' => ∃ o2 : Option V, σ' = [some (.ref pt), some (.ref pe), some (.ref pp), none, some (.ref pw), some (.ref pc), some (.ref pq), o2] ∧ Ex H1 H' ∧ Ex G8 H' ∧ H' la = some (.lst ((cutL t c t.start).map natV)) ∧ H' pp = some (.lst ((lowUp c ((cutL t c t.start).take i) m).map natV)) ∧ H' pc = some (.lst ((ps ++ [pq]).map V.ref)) ∧ F2 (fun q x => ∃ G : Hp, Ex G H' ∧ G pp = none ∧ G pc = none ∧ CutAt A G q x) (ps ++ [pq]) (cs ++ [(m, cutL t c t.start)])) (fun H10 e10 => ⟨o2, rfl, eH9.trans e10, eG9.trans e10, e10 _ _ hla', e10 _ _ hpp9, e10 _ _ (by rw [upd_same, List.map_append]; rfl), hf9.imp fun q x ⟨G, g1, g2, g3, g4⟩ => ⟨G, g1.trans e10, g2, g3, g4⟩⟩) (fun i σ' H' _ ⟨_, _, _, _, h, _⟩ => sq_of h) (fun i y σ' H' hi ⟨o2, hσ, e10, eG, hl10, hp10, hc10, hf10⟩ => ?_) (fun σ' H' ⟨o2, hσ, e10, eG, hl10, hp10, hc10, hf10⟩ => ?_)
    · subst hσ
      rw [List.getElem?_map] at hi
      cases q : (cutL t c t.start)[i]? with
      | none => rw [q] at hi; cases hi
      | some j =>
        rw [q] at hi
        cases (Option.some.inj hi)
        have hjm := List.mem_of_getElem? q
        have hjl := hltc j hjm
        have hge := lowUp_ge (m := m) hnd hltc q
        have hmle := hok.le j hjm
        obtain ⟨la2, _, hcev2⟩ := cut_at T (hGcut.ex eG)
        have nlp : la ≠ pp := n_of hla npp7
        refine s_subL (a := c.getD j 0) (b := m) hp10 (ev_var rfl) (ev_var rfl) (by rw [List.getElem?_map, ← hge, List.getD_eq_getElem?_getD, List.getElem?_eq_getElem (by rw [lowUp_len]; exact hjl)]; rfl) ((hcev2 _ _ (ev_var rfl)).1) hmle (fun H11 e11 => ⟨some (natV j), rfl, Ex.mut (e10.trans e11) hpp, Ex.mut (eG.trans e11) hGp, ?_, ?_, ?_, ?_⟩)
        · rw [upd_ne nlp]
          exact e11 _ _ hl10
        · rw [upd_same, set_map, lowUp_take q, hge]
        · rw [upd_ne hne]
          exact e11 _ _ hc10
        · exact hf10.imp fun q x ⟨G, g1, g2, g3, g4⟩ => ⟨G, Ex.mut (g1.trans e11) g2, g2, g3, g4⟩
    · subst hσ
      rw [List.length_map, List.take_length, lowUp_eq m hnd hltc] at hp10
      obtain ⟨P2, _⟩ := hok.next hc hv
      refine s_asgL (xs := rowV (t.facts + 2) (wst t (lower c (cutL t c t.start) m) t.start)) (el_call (ea_cons (ev_var rfl) (ea_cons (ev_var rfl) ea_nil)) (spL_of fun H11 e11 => ⟨pe, pp, t, _, rfl, he.mono (e10.trans e11), hw, P2, e11 _ _ hp10, rfl⟩)) (fun pw' H11 hpw' e11 h11 => ⟨m, pw', pq, o2, hok, rfl, e10.trans e11, e11 _ _ hp10, h11, ?_, ?_, e11 _ _ hc10, hf10.imp fun q x ⟨G, g1, g2, g3, g4⟩ => ⟨G, g1.trans e11, g2, g3, g4⟩⟩)
      · intro z
        rw [z, hp10] at hpw'
        cases hpw'
      · intro z
        rw [z, hc10] at hpw'
        cases hpw'
  · have hv0 : v = 0 := by
      have := of_decide_eq_false hb2
      omega
    rw [hv0] at hv
    rw [cutsF_zero hv] at hF
    have hF : Pn03.cutsOf t t.start = some cs := by
      rw [hF]
      exact congrArg some (List.append_nil cs)
    refine s_ret (ev_var rfl) (fun H8 e8 => k _ _ (((e1.trans e6).trans e7).trans e8) (.inr ⟨pc, cs, hF, rfl, ⟨ps, e8 _ _ (e7 _ _ h6c), hf2.imp fun q x ⟨G, g1, _, _, g4⟩ => g4.ex ((g1.trans e7).trans e8)⟩, by omega, hsh⟩))
end
end PC

set_option Elab.async false
set_option linter.all false
set_option maxRecDepth 100000
set_option maxHeartbeats 2000000
namespace PC
open PySem PySem.Spec PyProof.Rows L2 Evl
open Pn02 (Clause)
section
variable {P : Program} {w : World} {K : PySem.W.Frag} {mg : Str → Option Value} {base : Heap} {A : Ad} {f : Addr} {fd : FuncData}
/-! ### the house's own proofs -/
abbrev s_is_kind : Stmt := top 52
abbrev N_is_kind : List Str := ["kind"]
theorem sc_is_kind : FnScope N_is_kind ["kind"] (defScope s_is_kind) := ⟨rfl, rfl, rfl, by decide +kernel, rfl, by decide +kernel, by decide +kernel⟩
abbrev s_own_plan : Stmt := top 53
abbrev N_own_plan : List Str := ["task", "costs"]
theorem sc_own_plan : FnScope N_own_plan ["task"] (defScope s_own_plan) := ⟨rfl, rfl, rfl, by decide +kernel, rfl, by decide +kernel, by decide +kernel⟩
abbrev s_own_table : Stmt := top 54
abbrev N_own_table : List Str := ["task", "costs", "greatest", "cost"]
theorem sc_own_table : FnScope N_own_table ["task"] (defScope s_own_table) := ⟨rfl, rfl, rfl, by decide +kernel, rfl, by decide +kernel, by decide +kernel⟩
abbrev s_own_cuts : Stmt := top 55
abbrev N_own_cuts : List Str := ["task", "cuts", "told", "cut"]
theorem sc_own_cuts : FnScope N_own_cuts ["task"] (defScope s_own_cuts) := ⟨rfl, rfl, rfl, by decide +kernel, rfl, by decide +kernel, by decide +kernel⟩
abbrev s_own_states : Stmt := top 56
abbrev N_own_states : List Str := ["task", "states"]
theorem sc_own_states : FnScope N_own_states ["task"] (defScope s_own_states) := ⟨rfl, rfl, rfl, by decide +kernel, rfl, by decide +kernel, by decide +kernel⟩
abbrev s_own_clauses : Stmt := top 57
abbrev N_own_clauses : List Str := ["task", "clauses", "told", "clause"]
theorem sc_own_clauses : FnScope N_own_clauses ["task"] (defScope s_own_clauses) := ⟨rfl, rfl, rfl, by decide +kernel, rfl, by decide +kernel, by decide +kernel⟩
abbrev s_own_proof : Stmt := top 58
abbrev N_own_proof : List Str := ["task", "kind"]
theorem sc_own_proof : FnScope N_own_proof ["task", "kind"] (defScope s_own_proof) := ⟨rfl, rfl, rfl, by decide +kernel, rfl, by decide +kernel, by decide +kernel⟩
def sp_is_kind (_ : PySem.W.Frag) (_ : Ad) : Sp := spV fun vs _ z => ∃ n, vs = [natV n] ∧ z = .bl (decide (n ≤ 4))
theorem d_is_kind (T : Top K mg A) (F : Fun K "is_kind" "is_kind" s_is_kind f fd) (hf : mg "is_kind" = some (.ref f))  : Def P w K mg base "is_kind" 1 ["kind"] (sp_is_kind K A) := by
  refine ⟨f, fd, hf, F.kp, F.binds (fun _ _ _ _ _ _ us hl => match us, hl with | [_], _ => rfl), F.ok sc_is_kind (fun vs H Q E h => ?_) (fun cdv A' outer s H vs Q E hr h => ?_)⟩
  · obtain ⟨z, ⟨n, rfl, rfl⟩, k⟩ := h
    rfl
  obtain ⟨z, ⟨n, rfl, rfl⟩, k⟩ := h
  refine ⟨_, (pss_one (ps_ret (pe_cmpR op_le (pv 0) (pe_cst rfl T.c_CLAUSES_own) (nomark _)))), ?_⟩
  refine s_ret (v := .bl (decide (n ≤ 4))) (ev_is (ev_op (ev_var rfl) ev_c rv_I0) ?_) (fun H1 e => k.go e)
  show V.bl (decide ((n : Int) ≤ 4)) = _
  congr 1
  exact decide_eq_decide.mpr (by omega)
/-- a list of numbers, new, or None -/
def Told (H : Hp) (o : Option (List Nat)) : V → Hp → Prop := fun v H2 => (o = none ∧ v = .non) ∨ ∃ p l, o = some l ∧ v = .ref p ∧ H p = none ∧ H2 p = some (.lst (l.map natV))
theorem Told.no {H H2 : Hp} {o : Option (List Nat)} (h : o = none) : Told H o .non H2 := .inl ⟨h, rfl⟩
theorem Told.yes {H H2 : Hp} {o : Option (List Nat)} {p : Addr} {l : List Nat} (h : o = some l) (hp : H p = none) (h2 : H2 p = some (.lst (l.map natV))) : Told H o (.ref p) H2 := .inr ⟨p, l, h, rfl, hp, h2⟩
theorem Told.back {H H1 H2 : Hp} {o : Option (List Nat)} {v : V} (e : Ex H H1) (h : Told H1 o v H2) : Told H o v H2 := by
  rcases h with h | ⟨p, l, h1, h2, h3, h4⟩
  · exact .inl h
  · exact .inr ⟨p, l, h1, h2, fresh_back e h3, h4⟩
def ownPlan (t : Pn.Task) : Option (List Nat) := (cst t t.start).map fun c => c :: plan t t.start
def ownTab (t : Pn.Task) : Option (List Nat) := (cst t t.start).map fun c => c :: Pn18.ownTable t
def cutsL (l : List (Nat × List Nat)) : List Nat := l.flatMap fun x => x.1 :: x.2.length :: x.2
def ownCuts (t : Pn.Task) : Option (List Nat) := (Pn03.cutsOf t t.start).map fun l => Pn03.worth l :: l.length :: cutsL l
def ownStates (t : Pn.Task) : Option (List Nat) := if (cst t t.start).isSome = true then none else some (0 :: (t.reach t.start).length :: t.reach t.start)
def ownClauses (t : Pn.Task) : Option (List Nat) := (Pn02.proof t).map fun l => 0 :: l.length :: Pn02.numbers l
def ownL (t : Pn.Task) (k : Nat) : Option (List Nat) := if k = 0 then ownPlan t else if k = 1 then ownTab t else if k = 2 then ownCuts t else if k = 3 then ownStates t else ownClauses t
def spOwn (o : Pn.Task → Option (List Nat)) (A : Ad) : Sp := spP fun vs H Y => ∃ pt t, vs = [.ref pt] ∧ TaskAt A H pt t ∧ WF t ∧ Y = Told H (o t)
def sp_own_plan (_ : PySem.W.Frag) (A : Ad) : Sp := spOwn ownPlan A
def sp_own_table (_ : PySem.W.Frag) (A : Ad) : Sp := spOwn ownTab A
def sp_own_cuts (_ : PySem.W.Frag) (A : Ad) : Sp := spOwn ownCuts A
def sp_own_states (_ : PySem.W.Frag) (A : Ad) : Sp := spOwn ownStates A
def sp_own_clauses (_ : PySem.W.Frag) (A : Ad) : Sp := spOwn ownClauses A
theorem opt_non (o : Option Nat) : decide (optV o = .non) = o.isNone := by cases o <;> rfl
theorem d_own_plan (T : Top K mg A) (F : Fun K "own_plan" "own_plan" s_own_plan f fd) (hf : mg "own_plan" = some (.ref f)) (D_first_cheapest_plan : Def P w K mg base "first_cheapest_plan" 4 ["task", "costs"] (sp_first_cheapest_plan K A)) (D_cheapest_costs : Def P w K mg base "cheapest_costs" 4 ["task"] (sp_cheapest_costs K A)) : Def P w K mg base "own_plan" 5 ["task"] (sp_own_plan K A) := by
  obtain ⟨f_first_cheapest_plan, fd_first_cheapest_plan, g_first_cheapest_plan, k_first_cheapest_plan, b_first_cheapest_plan, G_first_cheapest_plan⟩ := D_first_cheapest_plan
  obtain ⟨f_cheapest_costs, fd_cheapest_costs, g_cheapest_costs, k_cheapest_costs, b_cheapest_costs, G_cheapest_costs⟩ := D_cheapest_costs
  refine ⟨f, fd, hf, F.kp, F.binds (fun _ _ _ _ _ _ us hl => match us, hl with | [_], _ => rfl), F.ok sc_own_plan (fun vs H Q E h => ?_) (fun cdv A' outer s H vs Q E hr h => ?_)⟩
  · obtain ⟨Y, ⟨pt, t, rfl, ht, hw, rfl⟩, k⟩ := h
    rfl
  obtain ⟨Y, ⟨pt, t, rfl, ht, hw, rfl⟩, k⟩ := h
  refine ⟨_, (pss_cons (ps_set (i := 1) sc_own_plan.nd rfl (by first | exact Or.inl rfl | exact Or.inr rfl) (pe_call G_cheapest_costs (hr.mono (by decide)) rfl g_cheapest_costs k_cheapest_costs b_cheapest_costs .nil pass0 (pa_cons (pv 0) pa_nil))) (pss_cons (ps_if (pt_cmpR op_isN (pe_ix (ix_listK (K := K) rfl) (pv 1) (pe_fldK (K := K) rfl (pv 0) rfl) (fun _ _ => rfl)) pe_non (nomark _)) (pss_one (ps_ret pe_non)) pss_nil) (pss_one (ps_ret (pe_op op_cat (pe_lst (pa_cons (pe_ix (ix_listK (K := K) rfl) (pv 1) (pe_fldK (K := K) rfl (pv 0) rfl) (fun _ _ => rfl)) pa_nil)) (pe_call G_first_cheapest_plan (hr.mono (by decide)) rfl g_first_cheapest_plan k_first_cheapest_plan b_first_cheapest_plan .nil pass0 (pa_cons (pv 0) (pa_cons (pv 1) pa_nil)))))))), ?_⟩
  have hp16 := hw.lt16
  refine q_asgL (xs := rowV (2 ^ t.facts) (cst t)) (el_call (ea_cons (ev_var rfl) ea_nil) (spL_of fun H1 e => ⟨pt, t, rfl, ht.mono e, hw, rfl⟩)) (fun pc H1 hpc e1 hc => ?_)
  have hix : ∀ H2, Ex H1 H2 → Ev (tOp (rIxL K) (tVar 1) (tFld K (tVar 0) "so")) [some (.ref pt), some (.ref pc)] H2 (optV (cst t t.start)) := fun H2 e2 => ev_ixN (ev_var rfl) (ev_so T (ht.mono (e1.trans e2)) (ev_var rfl)) (e2 _ _ hc) (rowV_get hw.st)
  refine q_when (b := (cst t t.start).isNone) (et_is (et_test (ev_isN (hix H1 (Ex.refl _)))) (opt_non _)) (fun hb H2 e2 => ?_) (fun hb H2 e2 => ?_)
  · refine s_ret (v := .non) ev_c (fun H3 e3 => k _ _ ((e1.trans e2).trans e3) (.no ?_))
    unfold ownPlan
    rw [Option.isNone_iff_eq_none.mp hb]
    rfl
  · cases q : cst t t.start with
    | none => rw [q] at hb; cases hb
    | some c =>
      have h1 := hix H2 e2
      rw [q] at h1
      have hl : (plan t t.start).length ≤ 16 := Nat.le_trans (best_len _ _) hp16
      refine s_retL (xs := (c :: plan t t.start).map natV) ?_ (fun p H3 hp e3 h3 => k _ _ ((e1.trans e2).trans e3) (.yes (l := c :: plan t t.start) ?_ (fresh_back (e1.trans e2) hp) h3))
      · exact el_cat (xs := [natV c]) (ys := (plan t t.start).map natV) (el_lst (ea_cons h1 ea_nil) (by show 1 ≤ 100000; decide)) (el_call (ea_cons (ev_var rfl) (ea_cons (ev_var rfl) ea_nil)) (spL_of fun H3 e3 => ⟨pt, t, pc, c, rfl, ht.mono ((e1.trans e2).trans e3), hw, e3 _ _ (e2 _ _ hc), q, rfl⟩)) (by rw [List.length_map]; show 1 + _ ≤ _; omega)
      · unfold ownPlan
        rw [q]
        rfl
theorem ev_maxE {σ : L2.St} {H : Hp} {te : TE} {ms : List Nat} {M : Nat} (h : EvL te σ H (ms.map natV)) (h1 : M ∈ ms) (h2 : ∀ x ∈ ms, x ≤ M) : Ev (tCB (rMax K) (tCons te tNil)) σ H (natV M) := fun H1 e Q q => h H1 e _ fun p H2 hp e2 h3 =>
  ⟨p, ms.map (fun n : Nat => (n : Int)), rfl, sq_of (by rw [List.map_map]; exact h3), by rw [List.length_map]; exact List.length_pos_of_mem h1, fun m hm hle => by
    obtain ⟨n, hn, rfl⟩ := List.mem_map.mp hm
    have a := hle (M : Int) (List.mem_map.mpr ⟨M, h1, rfl⟩)
    have b := h2 n hn
    have e3 : n = M := by omega
    rw [e3]
    exact q H2 e2⟩
theorem max_ex : ∀ {l : List Nat}, l ≠ [] → ∃ m ∈ l, ∀ x ∈ l, x ≤ m
  | [], h => absurd rfl h
  | [a], _ => ⟨a, List.mem_singleton.mpr rfl, fun x hx => by rw [List.mem_singleton.mp hx]; exact Nat.le_refl _⟩
  | a :: b :: l, _ => by
    obtain ⟨m, h1, h2⟩ := max_ex (l := b :: l) (by intro h; cases h)
    by_cases c : m ≤ a
    · refine ⟨a, List.mem_cons_self .., fun x hx => ?_⟩
      rcases List.mem_cons.mp hx with e | hx
      · omega
      · exact Nat.le_trans (h2 x hx) c
    · refine ⟨m, List.mem_cons_of_mem _ h1, fun x hx => ?_⟩
      rcases List.mem_cons.mp hx with e | hx
      · omega
      · exact h2 x hx
theorem there_mem {l : List (Option Nat)} {n : Nat} : n ∈ there l ↔ some n ∈ l := by
  unfold there
  rw [List.mem_filterMap]
  constructor
  · rintro ⟨y, hy, e⟩
    cases (show y = some n from e)
    exact hy
  · intro h
    exact ⟨some n, h, rfl⟩
theorem d_own_table (T : Top K mg A) (F : Fun K "own_table" "own_table" s_own_table f fd) (hf : mg "own_table" = some (.ref f)) (D_cheapest_costs : Def P w K mg base "cheapest_costs" 4 ["task"] (sp_cheapest_costs K A)) : Def P w K mg base "own_table" 5 ["task"] (sp_own_table K A) := by
  obtain ⟨f_cheapest_costs, fd_cheapest_costs, g_cheapest_costs, k_cheapest_costs, b_cheapest_costs, G_cheapest_costs⟩ := D_cheapest_costs
  refine ⟨f, fd, hf, F.kp, F.binds (fun _ _ _ _ _ _ us hl => match us, hl with | [_], _ => rfl), F.ok sc_own_table (fun vs H Q E h => ?_) (fun cdv A' outer s H vs Q E hr h => ?_)⟩
  · obtain ⟨Y, ⟨pt, t, rfl, ht, hw, rfl⟩, k⟩ := h
    rfl
  obtain ⟨Y, ⟨pt, t, rfl, ht, hw, rfl⟩, k⟩ := h
  refine ⟨_, (pss_cons (ps_set (i := 1) sc_own_table.nd rfl (by first | exact Or.inl rfl | exact Or.inr rfl) (pe_call G_cheapest_costs (hr.mono (by decide)) rfl g_cheapest_costs k_cheapest_costs b_cheapest_costs .nil pass0 (pa_cons (pv 0) pa_nil))) (pss_cons (ps_if (pt_cmpR op_isN (pe_ix (ix_listK (K := K) rfl) (pv 1) (pe_fldK (K := K) rfl (pv 0) rfl) (fun _ _ => rfl)) pe_non (nomark _)) (pss_one (ps_ret pe_non)) pss_nil) (pss_cons (ps_set (i := 2) sc_own_table.nd rfl (by first | exact Or.inl rfl | exact Or.inr rfl) (pe_callB (cr_max rfl) (by rfl) T.b_max (by decide +kernel) (pa_cons (pe_lc (own := [("cost", 3)]) rfl sc_own_table.nd (pi_listK (K := K) rfl (pv 1)) (blkOk_by (N := N_own_table) (sc := defScope (top 54)) (by decide +kernel)) (fun _ _ _ _ _ => (pg_name (i := 3) sc_own_table.nd rfl (by first | exact Or.inl rfl | exact Or.inr rfl))) (fun _ _ _ _ _ => (pts_one (pt_cmpR op_notN (pv 3) pe_non (nomark _)))) (fun _ _ _ _ _ => (pv 3))) pa_nil))) (pss_one (ps_ret (pe_op op_cat (pe_lst (pa_cons (pe_ix (ix_listK (K := K) rfl) (pv 1) (pe_fldK (K := K) rfl (pv 0) rfl) (fun _ _ => rfl)) pa_nil)) (pe_lc (own := [("cost", 3)]) rfl sc_own_table.nd (pi_listK (K := K) rfl (pv 1)) (blkOk_by (N := N_own_table) (sc := defScope (top 54)) (by decide +kernel)) (fun _ _ _ _ _ => (pg_name (i := 3) sc_own_table.nd rfl (by first | exact Or.inl rfl | exact Or.inr rfl))) (fun _ _ _ _ _ => pts_nil) (fun _ _ _ _ _ => (pe_ifExp (pt_cmpR op_isN (pv 3) pe_non (nomark _)) (pv 2) (pv 3)))))))))), ?_⟩
  have hp16 := hw.lt16
  refine q_asgL (xs := rowV (2 ^ t.facts) (cst t)) (el_call (ea_cons (ev_var rfl) ea_nil) (spL_of fun H1 e => ⟨pt, t, rfl, ht.mono e, hw, rfl⟩)) (fun pc H1 hpc e1 hc => ?_)
  refine q_when (b := (cst t t.start).isNone) (et_is (et_test (ev_isN (ev_ixN (i := t.start) (ev_var rfl) (ev_so T (ht.mono e1) (ev_var rfl)) hc (rowV_get hw.st)))) (opt_non _)) (fun hb H2 e2 => ?_) (fun hb H2 e2 => ?_)
  · refine s_ret (v := .non) ev_c (fun H3 e3 => k _ _ ((e1.trans e2).trans e3) (.no ?_))
    unfold ownTab
    rw [Option.isNone_iff_eq_none.mp hb]
    rfl
  cases q : cst t t.start with
  | none => rw [q] at hb; cases hb
  | some c =>
    have hmem : some c ∈ rowOf (2 ^ t.facts) (cst t) := by
      rw [← q]
      exact List.mem_map.mpr ⟨t.start, List.mem_range.mpr hw.st, rfl⟩
    obtain ⟨M, hM1, hM2⟩ := max_ex (l := there (rowOf (2 ^ t.facts) (cst t))) (fun z => by
      have := there_mem.mpr hmem
      rw [z] at this
      cases this)
    refine q_asg (v := natV M) (ev_maxE (el_there (l := rowOf (2 ^ t.facts) (cst t)) (ev_var rfl) (e2 _ _ hc) (by rw [rowOf_len]; omega) (fun _ => rfl) (fun _ => rfl)) hM1 hM2) (fun H3 e3 => ?_)
    have e13 := (e1.trans e2).trans e3
    have htab := ownTable_eq hw (m := M) (there_mem.mp hM1) (fun x hx => hM2 x (there_mem.mpr hx))
    have hlen : (Pn18.ownTable t).length = 2 ^ t.facts := by rw [htab, List.length_map, rowOf_len]
    refine s_retL (xs := (c :: Pn18.ownTable t).map natV) ?_ (fun p H4 hp e4 h4 => k _ _ (e13.trans e4) (.yes (l := c :: Pn18.ownTable t) ?_ (fresh_back e13 hp) h4))
    · refine el_cat (xs := [natV c]) (ys := (Pn18.ownTable t).map natV) (el_lst (ea_cons (ev_ixN (i := t.start) (ev_var rfl) (ev_so T (ht.mono e13) (ev_var rfl)) (e3 _ _ (e2 _ _ hc)) (by rw [rowV_get hw.st, q]; rfl)) ea_nil) (by show 1 ≤ 100000; decide)) (el_map (xs := rowV (2 ^ t.facts) (cst t)) (by rw [List.length_map, hlen, rowV_len]) (ev_var rfl) (e3 _ _ (e2 _ _ hc)) (by rw [rowV_len]; omega) (fun _ => rfl) (fun i x y H4 e4 hx hy => ?_)) (by rw [List.length_map, hlen]; show 1 + _ ≤ _; omega)
      have hi := (List.getElem?_eq_some_iff.mp hx).1
      rw [rowV_len] at hi
      rw [rowV_get hi] at hx
      cases (Option.some.inj hx)
      rw [htab, List.getElem?_map, List.getElem?_map, rowOf_get hi] at hy
      cases (Option.some.inj hy)
      refine ev_if (b := (cst t i).isNone) (et_is (et_test (ev_isN (ev_var rfl))) (opt_non _)) (fun hz => ?_) (fun hz => ?_)
      · rw [Option.isNone_iff_eq_none.mp hz]
        exact ev_var rfl
      · cases r : cst t i with
        | none => rw [r] at hz; cases hz
        | some y => exact ev_var rfl
    · unfold ownTab
      rw [q]
      rfl
theorem reach_len {t : Pn.Task} (w : WF t) : (t.reach t.start).length ≤ 2 ^ t.facts := by
  have e : [t.start] = among (2 ^ t.facts) (fun x => x == t.start) := sorted_same (List.pairwise_singleton _ _) (among_sorted _ _) fun x => by
    rw [among_mem, List.mem_singleton, beq_iff_eq]
    exact ⟨fun e => ⟨by rw [e]; exact w.st, e⟩, fun e => e.2⟩
  unfold Pn.Task.reach
  rw [e]
  have len : (among (2 ^ t.facts) (fun x => x == t.start)).length = 1 := by rw [← e]; rfl
  obtain ⟨q, q1, _⟩ := more_ends w (2 ^ t.facts) (fun x => x == t.start) (fun x _ h => by
    rw [beq_iff_eq.mp h]; exact .here) (by omega)
  rw [q1]
  unfold among
  have := List.length_filter_le q (List.range (2 ^ t.facts))
  rw [List.length_range] at this
  exact this
theorem d_own_states (T : Top K mg A) (F : Fun K "own_states" "own_states" s_own_states f fd) (hf : mg "own_states" = some (.ref f)) (D_states_come_to : Def P w K mg base "states_come_to" 3 ["task"] (sp_states_come_to K A)) (D_cheapest_costs : Def P w K mg base "cheapest_costs" 4 ["task"] (sp_cheapest_costs K A)) : Def P w K mg base "own_states" 5 ["task"] (sp_own_states K A) := by
  obtain ⟨f_states_come_to, fd_states_come_to, g_states_come_to, k_states_come_to, b_states_come_to, G_states_come_to⟩ := D_states_come_to
  obtain ⟨f_cheapest_costs, fd_cheapest_costs, g_cheapest_costs, k_cheapest_costs, b_cheapest_costs, G_cheapest_costs⟩ := D_cheapest_costs
  refine ⟨f, fd, hf, F.kp, F.binds (fun _ _ _ _ _ _ us hl => match us, hl with | [_], _ => rfl), F.ok sc_own_states (fun vs H Q E h => ?_) (fun cdv A' outer s H vs Q E hr h => ?_)⟩
  · obtain ⟨Y, ⟨pt, t, rfl, ht, hw, rfl⟩, k⟩ := h
    rfl
  obtain ⟨Y, ⟨pt, t, rfl, ht, hw, rfl⟩, k⟩ := h
  refine ⟨_, (pss_cons (ps_if (pt_cmpR op_notN (pe_ix (ix_listK (K := K) rfl) (pe_call G_cheapest_costs (hr.mono (by decide)) rfl g_cheapest_costs k_cheapest_costs b_cheapest_costs .nil pass0 (pa_cons (pv 0) pa_nil)) (pe_fldK (K := K) rfl (pv 0) rfl) (fun _ _ => rfl)) pe_non (nomark _)) (pss_one (ps_ret pe_non)) pss_nil) (pss_cons (ps_set (i := 1) sc_own_states.nd rfl (by first | exact Or.inl rfl | exact Or.inr rfl) (pe_call G_states_come_to (hr.mono (by decide)) rfl g_states_come_to k_states_come_to b_states_come_to .nil pass0 (pa_cons (pv 0) pa_nil))) (pss_one (ps_ret (pe_op op_cat (pe_lst (pa_cons pe_int (pa_cons (pe_callB (call_lenK (K := K) rfl) (by rfl) T.b_len (by decide +kernel) (pa_cons (pv 1) pa_nil)) pa_nil))) (pv 1)))))), ?_⟩
  have hp16 := hw.lt16
  refine q_when (b := (cst t t.start).isSome) (et_is (et_test (ev_notN (ev_opL1 (xs := rowV (2 ^ t.facts) (cst t)) (y := natV t.start) (z := optV (cst t t.start)) (el_call (ea_cons (ev_var rfl) ea_nil) (spL_of fun H1 e => ⟨pt, t, rfl, ht.mono e, hw, rfl⟩)) (fun H1 e1 => ev_so T (ht.mono e1) (ev_var rfl)) (fun p H1 hp e1 => rv_ixL (sq_of hp) (atI_nat (rowV_get hw.st)))))) (by cases cst t t.start <;> rfl)) (fun hb H1 e1 => ?_) (fun hb H1 e1 => ?_)
  · refine s_ret (v := .non) ev_c (fun H3 e3 => k _ _ (e1.trans e3) (.no ?_))
    unfold ownStates
    rw [if_pos hb]
  refine q_asgL (xs := (t.reach t.start).map natV) (el_call (ea_cons (ev_var rfl) ea_nil) (spL_of fun H2 e2 => ⟨pt, t, rfl, (ht.mono e1).mono e2, hw, rfl⟩)) (fun ps H2 hps e2 h2 => ?_)
  have hlen : (t.reach t.start).length ≤ 16 := Nat.le_trans (reach_len hw) hp16
  refine s_retL (xs := (0 :: (t.reach t.start).length :: t.reach t.start).map natV) ?_ (fun p H3 hp e3 h3 => k _ _ ((e1.trans e2).trans e3) (.yes (l := 0 :: (t.reach t.start).length :: t.reach t.start) ?_ (fresh_back (e1.trans e2) hp) h3))
  · exact el_catV (xs := [natV 0, natV (t.reach t.start).length]) (el_lst (ea_cons ev_c (ea_cons (ev_lenN (ev_var rfl) h2 (by rw [List.length_map])) ea_nil)) (by show 2 ≤ 100000; decide)) (ev_var rfl) h2 (by rw [List.length_map]; show 2 + _ ≤ _; omega)
  · unfold ownStates
    rw [if_neg (by rw [hb]; decide)]
theorem cutsL_snoc (l : List (Nat × List Nat)) (x : Nat × List Nat) : cutsL (l ++ [x]) = cutsL l ++ (x.1 :: x.2.length :: x.2) := by
  unfold cutsL
  rw [List.flatMap_append]
  show _ ++ (_ ++ []) = _
  rw [List.append_nil]
theorem cutsL_len : ∀ {l : List (Nat × List Nat)}, (∀ x ∈ l, x.2.length ≤ 9) → (cutsL l).length ≤ l.length * 11
  | [], _ => Nat.zero_le _
  | x :: l, h => by
    have a := h x (List.mem_cons_self ..)
    have ih := cutsL_len (l := l) fun y hy => h y (List.mem_cons_of_mem _ hy)
    show ((x.1 :: x.2.length :: x.2) ++ cutsL l).length ≤ _
    simp only [List.length_append, List.length_cons]
    omega
theorem d_own_cuts (T : Top K mg A) (F : Fun K "own_cuts" "own_cuts" s_own_cuts f fd) (hf : mg "own_cuts" = some (.ref f)) (D_find_cuts : Def P w K mg base "find_cuts" 5 ["task"] (sp_find_cuts K A)) : Def P w K mg base "own_cuts" 6 ["task"] (sp_own_cuts K A) := by
  obtain ⟨f_find_cuts, fd_find_cuts, g_find_cuts, k_find_cuts, b_find_cuts, G_find_cuts⟩ := D_find_cuts
  refine ⟨f, fd, hf, F.kp, F.binds (fun _ _ _ _ _ _ us hl => match us, hl with | [_], _ => rfl), F.ok sc_own_cuts (fun vs H Q E h => ?_) (fun cdv A' outer s H vs Q E hr h => ?_)⟩
  · obtain ⟨Y, ⟨pt, t, rfl, ht, hw, rfl⟩, k⟩ := h
    rfl
  obtain ⟨Y, ⟨pt, t, rfl, ht, hw, rfl⟩, k⟩ := h
  refine ⟨_, (pss_cons (ps_set (i := 1) sc_own_cuts.nd rfl (by first | exact Or.inl rfl | exact Or.inr rfl) (pe_call G_find_cuts (hr.mono (by decide)) rfl g_find_cuts k_find_cuts b_find_cuts .nil pass0 (pa_cons (pv 0) pa_nil))) (pss_cons (ps_if (pt_cmpR op_isN (pv 1) pe_non (nomark _)) (pss_one (ps_ret pe_non)) pss_nil) (pss_cons (ps_set (i := 2) sc_own_cuts.nd rfl (by first | exact Or.inl rfl | exact Or.inr rfl) (pe_lst (pa_cons (pe_callB (cr_sum rfl) (by rfl) T.b_sum (by decide +kernel) (pa_cons (pe_lc (own := [("cut", 3)]) rfl sc_own_cuts.nd (pi_listK (K := K) rfl (pv 1)) (blkOk_by (N := N_own_cuts) (sc := defScope (top 55)) (by decide +kernel)) (fun _ _ _ _ _ => (pg_name (i := 3) sc_own_cuts.nd rfl (by first | exact Or.inl rfl | exact Or.inr rfl))) (fun _ _ _ _ _ => pts_nil) (fun _ _ _ _ _ => (pe_fldK (K := K) rfl (pv 3) rfl))) pa_nil)) (pa_cons (pe_callB (call_lenK (K := K) rfl) (by rfl) T.b_len (by decide +kernel) (pa_cons (pv 1) pa_nil)) pa_nil)))) (pss_cons (ps_for PassesOwn.never rfl (pi_listK (K := K) rfl (pv 1)) (pg_name (i := 3) sc_own_cuts.nd rfl (by first | exact Or.inl rfl | exact Or.inr rfl)) (pss_one (ps_expr (pe_bm PySem.F.plainAttrs_list PySem.F.slot_list_extend PySem.F.type_list_extend mt_extend (pv 2) (pa_cons (pe_op op_cat (pe_lst (pa_cons (pe_fldK (K := K) rfl (pv 3) rfl) (pa_cons (pe_callB (call_lenK (K := K) rfl) (by rfl) T.b_len (by decide +kernel) (pa_cons (pe_fldK (K := K) rfl (pv 3) rfl) pa_nil)) pa_nil))) (pe_fldK (K := K) rfl (pv 3) rfl)) pa_nil))))) (pss_one (ps_ret (pv 2))))))), ?_⟩
  refine q_asgP (Y := fun v H2 => (Pn03.cutsOf t t.start = none ∧ v = .non) ∨ ∃ p cs, Pn03.cutsOf t t.start = some cs ∧ v = .ref p ∧ CutsAt A H2 p cs ∧ cs.length ≤ 9 ∧ ∀ x ∈ cs, x.2.length ≤ 9) (ep_call (ea_cons (ev_var rfl) ea_nil) (spP_of fun H1 e => ⟨pt, t, rfl, ht.mono e, hw, rfl⟩)) (fun v H1 e1 hY => ?_)
  rcases hY with ⟨h0, hv⟩ | ⟨pc, cs, h0, hv, ⟨ps, hpc, hf⟩, hl9, hs9⟩
  · subst hv
    refine q_when (b := true) (et_is (et_test (ev_isN (ev_var rfl))) rfl) (fun _ H2 e2 => ?_) (fun hb => by cases hb)
    refine s_ret (v := .non) ev_c (fun H3 e3 => k _ _ ((e1.trans e2).trans e3) (.no ?_))
    unfold ownCuts
    rw [h0]
    rfl
  subst hv
  refine q_when (b := false) (et_is (et_test (ev_isN (ev_var rfl))) rfl) (fun hb => by cases hb) (fun _ H2 e2 => ?_)
  have hpsl := hf.len
  have hgetc : ∀ {H' : Hp} {i : Nat} {x : V}, Ex H1 H' → (ps.map V.ref)[i]? = some x → ∃ (q : Addr) (y : Nat × List Nat), x = .ref q ∧ cs[i]? = some y ∧ CutAt A H' q y := fun {H' i x} e hi => by
    have hi2 := (List.getElem?_eq_some_iff.mp hi).1
    rw [List.length_map] at hi2
    obtain ⟨q, hq, r⟩ := hf.get (i := i) (List.getElem?_eq_getElem (by omega))
    rw [List.getElem?_map, hq] at hi
    exact ⟨q, _, (Option.some.inj hi).symm, List.getElem?_eq_getElem (by omega), r.ex e⟩
  refine q_asgL (xs := [natV (Pn03.worth cs), natV cs.length]) (el_lst (ea_cons (ev_is (ev_sumN (ms := cs.map fun x => x.1) (el_map (xs := ps.map V.ref) (by rw [List.length_map, List.length_map, List.length_map, hpsl]) (ev_var rfl) (e2 _ _ hpc) (by rw [List.length_map]; omega) (fun _ => rfl) (fun i x y H3 e3 hx hy => ?_))) (by unfold Pn03.worth; rw [sum_eq])) (ea_cons (ev_lenN (ev_var rfl) (e2 _ _ hpc) (by rw [List.length_map, hpsl])) ea_nil)) (by show 2 ≤ 100000; decide)) (fun pl H3 hpl e3 h3 => ?_)
  · obtain ⟨q, z, rfl, hz, hcut⟩ := hgetc (e2.trans e3) hx
    rw [List.getElem?_map, List.getElem?_map, hz] at hy
    cases (Option.some.inj hy)
    obtain ⟨la, _, hev⟩ := cut_at T hcut
    exact (hev _ _ (ev_var rfl)).1
  have e13 := (e1.trans e2).trans e3
  have hplH : H pl = none := fresh_back (e1.trans e2) hpl
  have hpl1 : H1 pl = none := fresh_back e2 hpl
  refine q_forLn (xs := ps.map V.ref) (ev_var rfl) (sq_of (e3 _ _ (e2 _ _ hpc))) (fun i σ' H' => ∃ o : Option V, σ' = [some (.ref pt), some (.ref pc), some (.ref pl), o] ∧ Ex H1 H' ∧ H' pl = some (.lst ((Pn03.worth cs :: cs.length :: cutsL (cs.take i)).map natV))) (fun H4 e4 => ⟨none, rfl, (e2.trans e3).trans e4, e4 _ _ h3⟩) (fun i σ' H' _ ⟨_, _, e4, _⟩ => sq_of (e4 _ _ hpc)) (fun i x σ' H' hi ⟨o, hσ, e4, h4⟩ => ?_) (fun σ' H' ⟨o, hσ, e4, h4⟩ => ?_)
  · subst hσ
    obtain ⟨q, z, rfl, hz, hcut⟩ := hgetc e4 hi
    obtain ⟨la, hla, hev⟩ := cut_at T hcut
    have hz9 := hs9 z (List.mem_of_getElem? hz)
    have hlen := cutsL_len (l := cs.take i) fun y hy => hs9 y (List.mem_of_mem_take hy)
    rw [List.length_take] at hlen
    have hmul : min i cs.length * 11 ≤ 9 * 11 := Nat.mul_le_mul_right _ (by omega)
    refine s_ext (Y := fun v H2 => ∃ p, v = .ref p ∧ H2 p = some (.lst ((z.1 :: z.2.length :: z.2).map natV))) h4 (ev_var rfl) (fun H5 e5 => EvP.imp (ep_evL (xs := (z.1 :: z.2.length :: z.2).map natV) ?_) (fun v H2 ⟨p, y1, y2, y3⟩ => ⟨p, y1, y3⟩)) (fun v H5 e5 ⟨p, hv, h5⟩ => ⟨p, _, hv, h5, ?_, some (.ref q), rfl, Ex.mut (e4.trans e5) hpl1, ?_⟩)
    · exact el_catV (xs := [natV z.1, natV z.2.length]) (el_lst (ea_cons (((hev _ _ (ev_var rfl)).1).mono e5) (ea_cons (ev_lenN (((hev _ _ (ev_var rfl)).2).mono e5) (e5 _ _ hla) (by rw [List.length_map])) ea_nil)) (by show 2 ≤ 100000; decide)) (((hev _ _ (ev_var rfl)).2).mono e5) (e5 _ _ hla) (by rw [List.length_map]; show 2 + _ ≤ _; omega)
    · rw [List.length_map, List.length_map, List.length_cons, List.length_cons, List.length_cons, List.length_cons]
      omega
    · rw [upd_same, ← List.map_append]
      have : cs.take (i + 1) = cs.take i ++ [z] := by rw [List.take_succ, hz]; rfl
      rw [this, cutsL_snoc]
      rfl
  · subst hσ
    rw [List.length_map, hpsl, List.take_length] at h4
    refine s_ret (ev_var rfl) (fun H5 e5 => k _ _ ((e1.trans e4).trans e5) (.yes (l := Pn03.worth cs :: cs.length :: cutsL cs) ?_ hplH (e5 _ _ h4)))
    unfold ownCuts
    rw [h0]
    rfl
theorem numbers_snoc (l : List Clause) (x : Clause) : Pn02.numbers (l ++ [x]) = Pn02.numbers l ++ [x.1, x.2] := by
  unfold Pn02.numbers
  rw [List.flatMap_append]
  rfl
theorem numbers_len : ∀ l : List Clause, (Pn02.numbers l).length = l.length * 2
  | [] => rfl
  | x :: l => by
    show ([x.1, x.2] ++ Pn02.numbers l).length = _
    simp only [List.length_append, List.length_cons, numbers_len l, List.length_nil]
    omega
theorem d_own_clauses (T : Top K mg A) (F : Fun K "own_clauses" "own_clauses" s_own_clauses f fd) (hf : mg "own_clauses" = some (.ref f)) (D_find_clauses : Def P w K mg base "find_clauses" 5 ["task"] (sp_find_clauses K A)) : Def P w K mg base "own_clauses" 6 ["task"] (sp_own_clauses K A) := by
  obtain ⟨f_find_clauses, fd_find_clauses, g_find_clauses, k_find_clauses, b_find_clauses, G_find_clauses⟩ := D_find_clauses
  refine ⟨f, fd, hf, F.kp, F.binds (fun _ _ _ _ _ _ us hl => match us, hl with | [_], _ => rfl), F.ok sc_own_clauses (fun vs H Q E h => ?_) (fun cdv A' outer s H vs Q E hr h => ?_)⟩
  · obtain ⟨Y, ⟨pt, t, rfl, ht, hw, rfl⟩, k⟩ := h
    rfl
  obtain ⟨Y, ⟨pt, t, rfl, ht, hw, rfl⟩, k⟩ := h
  refine ⟨_, (pss_cons (ps_set (i := 1) sc_own_clauses.nd rfl (by first | exact Or.inl rfl | exact Or.inr rfl) (pe_call G_find_clauses (hr.mono (by decide)) rfl g_find_clauses k_find_clauses b_find_clauses .nil pass0 (pa_cons (pv 0) pa_nil))) (pss_cons (ps_if (pt_cmpR op_isN (pv 1) pe_non (nomark _)) (pss_one (ps_ret pe_non)) pss_nil) (pss_cons (ps_set (i := 2) sc_own_clauses.nd rfl (by first | exact Or.inl rfl | exact Or.inr rfl) (pe_lst (pa_cons pe_int (pa_cons (pe_callB (call_lenK (K := K) rfl) (by rfl) T.b_len (by decide +kernel) (pa_cons (pv 1) pa_nil)) pa_nil)))) (pss_cons (ps_for PassesOwn.never rfl (pi_listK (K := K) rfl (pv 1)) (pg_name (i := 3) sc_own_clauses.nd rfl (by first | exact Or.inl rfl | exact Or.inr rfl)) (pss_one (ps_expr (pe_bm PySem.F.plainAttrs_list PySem.F.slot_list_extend PySem.F.type_list_extend mt_extend (pv 2) (pa_cons (pe_lst (pa_cons (pe_ix (ix_tupK (K := K) rfl) (pv 3) pe_int (fun _ _ => rfl)) (pa_cons (pe_ix (ix_tupK (K := K) rfl) (pv 3) pe_int (fun _ _ => rfl)) pa_nil))) pa_nil))))) (pss_one (ps_ret (pv 2))))))), ?_⟩
  refine q_asgP (Y := fun v H2 => (Pn02.proof t = none ∧ v = .non) ∨ ∃ p r, Pn02.proof t = some r ∧ v = .ref p ∧ RowAt H2 p r ∧ r.length ≤ 2) (ep_call (ea_cons (ev_var rfl) ea_nil) (spP_of fun H1 e => ⟨pt, t, rfl, ht.mono e, hw, rfl⟩)) (fun v H1 e1 hY => ?_)
  rcases hY with ⟨h0, hv⟩ | ⟨pc, r, h0, hv, ⟨xs, hpc, h2, h3⟩, hl2⟩
  · subst hv
    refine q_when (b := true) (et_is (et_test (ev_isN (ev_var rfl))) rfl) (fun _ H2 e2 => ?_) (fun hb => by cases hb)
    refine s_ret (v := .non) ev_c (fun H3 e3 => k _ _ ((e1.trans e2).trans e3) (.no ?_))
    unfold ownClauses
    rw [h0]
    rfl
  subst hv
  refine q_when (b := false) (et_is (et_test (ev_isN (ev_var rfl))) rfl) (fun hb => by cases hb) (fun _ H2 e2 => ?_)
  refine q_asgL (xs := [natV 0, natV r.length]) (el_lst (ea_cons ev_c (ea_cons (ev_lenN (ev_var rfl) (e2 _ _ hpc) h2) ea_nil)) (by show 2 ≤ 100000; decide)) (fun pl H3 hpl e3 h3' => ?_)
  have hplH : H pl = none := fresh_back (e1.trans e2) hpl
  have hpl1 : H1 pl = none := fresh_back e2 hpl
  refine q_forLn (xs := xs) (ev_var rfl) (sq_of (e3 _ _ (e2 _ _ hpc))) (fun i σ' H' => ∃ o : Option V, σ' = [some (.ref pt), some (.ref pc), some (.ref pl), o] ∧ Ex H1 H' ∧ H' pl = some (.lst ((0 :: r.length :: Pn02.numbers (r.take i)).map natV))) (fun H4 e4 => ⟨none, rfl, (e2.trans e3).trans e4, e4 _ _ h3'⟩) (fun i σ' H' _ ⟨_, _, e4, _⟩ => sq_of (e4 _ _ hpc)) (fun i x σ' H' hi ⟨o, hσ, e4, h4⟩ => ?_) (fun σ' H' ⟨o, hσ, e4, h4⟩ => ?_)
  · subst hσ
    obtain ⟨c, q, hc, rfl, hq⟩ := row_at h2 h3 hi
    have hlen := numbers_len (r.take i)
    rw [List.length_take] at hlen
    refine s_ext (Y := fun v H2 => ∃ p, v = .ref p ∧ H2 p = some (.lst ([c.1, c.2].map natV))) h4 (ev_var rfl) (fun H5 e5 => EvP.imp (ep_evL (xs := [c.1, c.2].map natV) ?_) (fun v H2 ⟨p, y1, y2, y3⟩ => ⟨p, y1, y3⟩)) (fun v H5 e5 ⟨p, hv, h5⟩ => ⟨p, _, hv, h5, ?_, some (.ref q), rfl, Ex.mut (e4.trans e5) hpl1, ?_⟩)
    · obtain ⟨g1, g2⟩ := ev_ixT2 (K := K) (ta := tVar 3) (σ := [some (.ref pt), some (.ref pc), some (.ref pl), some (.ref q)]) (ev_var rfl) ((e4.trans e5) _ _ hq)
      exact el_lst (ea_cons g1 (ea_cons g2 ea_nil)) (by show 2 ≤ 100000; decide)
    · rw [List.length_map, List.length_map, List.length_cons, List.length_cons, hlen]
      show _ + 2 ≤ _
      omega
    · rw [upd_same, ← List.map_append]
      have : r.take (i + 1) = r.take i ++ [c] := by rw [List.take_succ, hc]; rfl
      rw [this, numbers_snoc]
      rfl
  · subst hσ
    rw [h2, List.take_length] at h4
    refine s_ret (ev_var rfl) (fun H5 e5 => k _ _ ((e1.trans e4).trans e5) (.yes (l := 0 :: r.length :: Pn02.numbers r) ?_ hplH (e5 _ _ h4)))
    unfold ownClauses
    rw [h0]
    rfl
def sp_own_proof (_ : PySem.W.Frag) (A : Ad) : Sp := spP fun vs H Y => ∃ pt t n, vs = [.ref pt, natV n] ∧ TaskAt A H pt t ∧ WF t ∧ Y = Told H (ownL t n)
theorem ep_own {σ : L2.St} {H : Hp} {o : Pn.Task → Option (List Nat)} {pt : Addr} {t : Pn.Task} {ta : TA} (h : EvA ta σ H [.ref pt]) (ht : TaskAt A H pt t) (hw : WF t) : EvP (tCall (spOwn o A) [] E0 ta) σ H (Told H (o t)) := ep_call h (fun H1 e Q q E => ⟨_, ⟨pt, t, rfl, ht.mono e, hw, rfl⟩, fun v H2 e2 y => q v H2 e2 (y.back e)⟩)
theorem d_own_proof (T : Top K mg A) (F : Fun K "own_proof" "own_proof" s_own_proof f fd) (hf : mg "own_proof" = some (.ref f)) (D_own_clauses : Def P w K mg base "own_clauses" 6 ["task"] (sp_own_clauses K A)) (D_own_states : Def P w K mg base "own_states" 5 ["task"] (sp_own_states K A)) (D_own_cuts : Def P w K mg base "own_cuts" 6 ["task"] (sp_own_cuts K A)) (D_own_table : Def P w K mg base "own_table" 5 ["task"] (sp_own_table K A)) (D_own_plan : Def P w K mg base "own_plan" 5 ["task"] (sp_own_plan K A)) : Def P w K mg base "own_proof" 7 ["task", "kind"] (sp_own_proof K A) := by
  obtain ⟨f_own_clauses, fd_own_clauses, g_own_clauses, k_own_clauses, b_own_clauses, G_own_clauses⟩ := D_own_clauses
  obtain ⟨f_own_states, fd_own_states, g_own_states, k_own_states, b_own_states, G_own_states⟩ := D_own_states
  obtain ⟨f_own_cuts, fd_own_cuts, g_own_cuts, k_own_cuts, b_own_cuts, G_own_cuts⟩ := D_own_cuts
  obtain ⟨f_own_table, fd_own_table, g_own_table, k_own_table, b_own_table, G_own_table⟩ := D_own_table
  obtain ⟨f_own_plan, fd_own_plan, g_own_plan, k_own_plan, b_own_plan, G_own_plan⟩ := D_own_plan
  refine ⟨f, fd, hf, F.kp, F.binds (fun _ _ _ _ _ _ us hl => match us, hl with | [_, _], _ => rfl), F.ok sc_own_proof (fun vs H Q E h => ?_) (fun cdv A' outer s H vs Q E hr h => ?_)⟩
  · obtain ⟨Y, ⟨pt, t, n, rfl, ht, hw, rfl⟩, k⟩ := h
    rfl
  obtain ⟨Y, ⟨pt, t, n, rfl, ht, hw, rfl⟩, k⟩ := h
  refine ⟨_, (pss_cons (ps_if (pt_cmpR op_eq (pv 1) (pe_cst rfl T.c_PLAN_own) (nomark _)) (pss_one (ps_ret (pe_call G_own_plan (hr.mono (by decide)) rfl g_own_plan k_own_plan b_own_plan .nil pass0 (pa_cons (pv 0) pa_nil)))) pss_nil) (pss_cons (ps_if (pt_cmpR op_eq (pv 1) (pe_cst rfl T.c_TABLE_own) (nomark _)) (pss_one (ps_ret (pe_call G_own_table (hr.mono (by decide)) rfl g_own_table k_own_table b_own_table .nil pass0 (pa_cons (pv 0) pa_nil)))) pss_nil) (pss_cons (ps_if (pt_cmpR op_eq (pv 1) (pe_cst rfl T.c_CUTS_own) (nomark _)) (pss_one (ps_ret (pe_call G_own_cuts (hr.mono (by decide)) rfl g_own_cuts k_own_cuts b_own_cuts .nil pass0 (pa_cons (pv 0) pa_nil)))) pss_nil) (pss_cons (ps_if (pt_cmpR op_eq (pv 1) (pe_cst rfl T.c_STATES) (nomark _)) (pss_one (ps_ret (pe_call G_own_states (hr.mono (by decide)) rfl g_own_states k_own_states b_own_states .nil pass0 (pa_cons (pv 0) pa_nil)))) pss_nil) (pss_one (ps_ret (pe_call G_own_clauses (hr.mono (by decide)) rfl g_own_clauses k_own_clauses b_own_clauses .nil pass0 (pa_cons (pv 0) pa_nil)))))))), ?_⟩
  refine q_when (b := n == 0) (et_test (ev_eqN (a := n) (b := 0) (ev_var rfl) ev_c)) (fun hb H1 e1 => ?_) (fun hb H1 e1 => ?_)
  · refine s_retP (ep_own (ea_cons (ev_var rfl) ea_nil) (ht.mono e1) hw) (fun v H2 e2 y => k _ _ (e1.trans e2) (y.back e1 |> fun z => ?_))
    have : n = 0 := beq_iff_eq.mp hb
    subst this
    exact z
  have h0 : n ≠ 0 := by simpa using hb
  refine q_when (b := n == 1) (et_test (ev_eqN (a := n) (b := 1) (ev_var rfl) ev_c)) (fun hb H2 e2 => ?_) (fun hb H2 e2 => ?_)
  · refine s_retP (ep_own (ea_cons (ev_var rfl) ea_nil) (ht.mono (e1.trans e2)) hw) (fun v H3 e3 y => k _ _ ((e1.trans e2).trans e3) (y.back (e1.trans e2) |> fun z => ?_))
    have : n = 1 := beq_iff_eq.mp hb
    subst this
    exact z
  have h1 : n ≠ 1 := by simpa using hb
  refine q_when (b := n == 2) (et_test (ev_eqN (a := n) (b := 2) (ev_var rfl) ev_c)) (fun hb H3 e3 => ?_) (fun hb H3 e3 => ?_)
  · refine s_retP (ep_own (ea_cons (ev_var rfl) ea_nil) (ht.mono ((e1.trans e2).trans e3)) hw) (fun v H4 e4 y => k _ _ (((e1.trans e2).trans e3).trans e4) (y.back ((e1.trans e2).trans e3) |> fun z => ?_))
    have : n = 2 := beq_iff_eq.mp hb
    subst this
    exact z
  have h2 : n ≠ 2 := by simpa using hb
  have e13 := (e1.trans e2).trans e3
  refine q_when (b := n == 3) (et_test (ev_eqN (a := n) (b := 3) (ev_var rfl) ev_c)) (fun hb H4 e4 => ?_) (fun hb H4 e4 => ?_)
  · refine s_retP (ep_own (ea_cons (ev_var rfl) ea_nil) (ht.mono (e13.trans e4)) hw) (fun v H5 e5 y => k _ _ ((e13.trans e4).trans e5) (y.back (e13.trans e4) |> fun z => ?_))
    have : n = 3 := beq_iff_eq.mp hb
    subst this
    exact z
  have h3 : n ≠ 3 := by simpa using hb
  refine s_retP (ep_own (ea_cons (ev_var rfl) ea_nil) (ht.mono (e13.trans e4)) hw) (fun v H5 e5 y => k _ _ ((e13.trans e4).trans e5) (y.back (e13.trans e4) |> fun z => ?_))
  unfold ownL
  rw [if_neg h0, if_neg h1, if_neg h2, if_neg h3]
  exact z
end
end PC

set_option Elab.async false
set_option linter.all false
set_option maxRecDepth 100000
set_option maxHeartbeats 2000000
namespace PC
open PySem PySem.Spec PyProof.Rows L2 Evl
section
variable {P : Program} {w : World} {K : PySem.W.Frag} {mg : Str → Option Value} {base : Heap} {A : Ad} {f : Addr} {fd : FuncData}
/-! ### a plan, checked -/
abbrev s_plan_check : Stmt := top 9
abbrev N_plan_check : List Str := ["task", "claim", "plan", "state", "cost", "place", "number"]
theorem sc_plan_check : FnScope N_plan_check ["task", "claim", "plan"] (defScope s_plan_check) := ⟨rfl, rfl, rfl, by decide +kernel, rfl, by decide +kernel, by decide +kernel⟩
abbrev s_Call___init__ : Stmt := inClass (top 60) 0
abbrev N_Call___init__ : List Str := ["self", "number", "numbers", "lists"]
theorem sc_Call___init__ : FnScope N_Call___init__ ["self", "number", "numbers", "lists"] (defScope s_Call___init__) := ⟨rfl, rfl, rfl, by decide +kernel, rfl, by decide +kernel, by decide +kernel⟩
abbrev s_counted : Stmt := top 61
abbrev N_counted : List Str := ["told", "at"]
theorem sc_counted : FnScope N_counted ["told", "at"] (defScope s_counted) := ⟨rfl, rfl, rfl, by decide +kernel, rfl, by decide +kernel, by decide +kernel⟩
abbrev s_read_calls : Stmt := top 62
abbrev N_read_calls : List Str := ["told", "calls", "at", "number", "numbers", "lists", "left"]
theorem sc_read_calls : FnScope N_read_calls ["told"] (defScope s_read_calls) := ⟨rfl, rfl, rfl, by decide +kernel, rfl, by decide +kernel, by decide +kernel⟩
def sp_plan_check (_ : PySem.W.Frag) (A : Ad) : Sp := spL fun vs H xs => ∃ pt t c pl l, vs = [.ref pt, natV c, .ref pl] ∧ TaskAt A H pt t ∧ WF t ∧ H pl = some (.lst (l.map natV)) ∧ l.length ≤ 1000 ∧ xs = (faultL (Pn18.checkPlan t c 0 t.start 0 l)).map natV
theorem d_plan_check (T : Top K mg A) (F : Fun K "plan_check" "plan_check" s_plan_check f fd) (hf : mg "plan_check" = some (.ref f)) (D_as_wanted : Def P w K mg base "as_wanted" 1 ["task", "state"] (sp_as_wanted K A)) (D_behind : Def P w K mg base "behind" 1 ["act", "state"] (sp_behind K A)) (D_may_be_done : Def P w K mg base "may_be_done" 1 ["act", "state"] (sp_may_be_done K A)) : Def P w K mg base "plan_check" 2 ["task", "claim", "plan"] (sp_plan_check K A) := by
  obtain ⟨f_as_wanted, fd_as_wanted, g_as_wanted, k_as_wanted, b_as_wanted, G_as_wanted⟩ := D_as_wanted
  obtain ⟨f_behind, fd_behind, g_behind, k_behind, b_behind, G_behind⟩ := D_behind
  obtain ⟨f_may_be_done, fd_may_be_done, g_may_be_done, k_may_be_done, b_may_be_done, G_may_be_done⟩ := D_may_be_done
  refine ⟨f, fd, hf, F.kp, F.binds (fun _ _ _ _ _ _ us hl => match us, hl with | [_, _, _], _ => rfl), F.ok sc_plan_check (fun vs H Q E h => ?_) (fun cdv A' outer s H vs Q E hr h => ?_)⟩
  · obtain ⟨z, ⟨pt, t, c, pl, l, rfl, ht, hw, hl, hlen, rfl⟩, k⟩ := h
    rfl
  obtain ⟨z, ⟨pt, t, c, pl, l, rfl, ht, hw, hl, hlen, rfl⟩, k⟩ := h
  refine ⟨_, (pss_cons (ps_set (i := 3) sc_plan_check.nd rfl (by first | exact Or.inl rfl | exact Or.inr rfl) (pe_fldK (K := K) rfl (pv 0) rfl)) (pss_cons (ps_set (i := 4) sc_plan_check.nd rfl (by first | exact Or.inl rfl | exact Or.inr rfl) pe_int) (pss_cons (ps_for PassesOwn.never rfl (pi_enum (by rfl) T.b_enumerate (pa_cons (pv 2) pa_nil)) (pg_tupK (K := K) (n := 2) rfl rfl (pgs_cons (pg_name (i := 5) sc_plan_check.nd rfl (by first | exact Or.inl rfl | exact Or.inr rfl)) (pgs_cons (pg_name (i := 6) sc_plan_check.nd rfl (by first | exact Or.inl rfl | exact Or.inr rfl)) pgs_nil))) (pss_cons (ps_if (PW.pt (pw_or (pt_cmpR op_ge (pv 6) (pe_callB (call_lenK (K := K) rfl) (by rfl) T.b_len (by decide +kernel) (pa_cons (pe_fldK (K := K) rfl (pv 0) rfl) pa_nil)) (nomark _)) (pw_or1 (pt_not (pt_val (pe_call G_may_be_done (hr.mono (by decide)) rfl g_may_be_done k_may_be_done b_may_be_done .nil pass0 (pa_cons (pe_ix (ix_listK (K := K) rfl) (pe_fldK (K := K) rfl (pv 0) rfl) (pv 6) (fun _ _ => rfl)) (pa_cons (pv 3) pa_nil)))))))) (pss_one (ps_ret (pe_lst (pa_cons pe_int (pa_cons (pv 5) pa_nil))))) pss_nil) (pss_cons (ps_set (i := 3) sc_plan_check.nd rfl (by first | exact Or.inl rfl | exact Or.inr rfl) (pe_call G_behind (hr.mono (by decide)) rfl g_behind k_behind b_behind .nil pass0 (pa_cons (pe_ix (ix_listK (K := K) rfl) (pe_fldK (K := K) rfl (pv 0) rfl) (pv 6) (fun _ _ => rfl)) (pa_cons (pv 3) pa_nil)))) (pss_one (ps_aug (i := 4) sc_plan_check.nd rfl (by first | exact Or.inl rfl | exact Or.inr rfl) (pe_fldK (K := K) rfl (pe_ix (ix_listK (K := K) rfl) (pe_fldK (K := K) rfl (pv 0) rfl) (pv 6) (fun _ _ => rfl)) rfl) ip_add))))) (pss_cons (ps_if (pt_not (pt_val (pe_call G_as_wanted (hr.mono (by decide)) rfl g_as_wanted k_as_wanted b_as_wanted .nil pass0 (pa_cons (pv 0) (pa_cons (pv 3) pa_nil))))) (pss_one (ps_ret (pe_lst (pa_cons pe_int pa_nil)))) pss_nil) (pss_cons (ps_if (pt_cmpR op_gt (pv 4) (pv 1) (nomark _)) (pss_one (ps_ret (pe_lst (pa_cons pe_int (pa_cons (pv 4) pa_nil))))) pss_nil) (pss_one (ps_ret (pe_lst (pa_cons pe_int pa_nil))))))))), ?_⟩
  refine q_asg (v := natV t.start) (ev_so T ht (ev_var rfl)) (fun H1 e1 => ?_)
  refine q_asg (v := natV 0) ev_c (fun H2 e2 => ?_)
  have e12 := e1.trans e2
  refine q_forE (xs := l.map natV) (ev_var rfl) (e12 _ _ hl) (fun i σ' H' => ∃ (s p : Nat) (o1 o2 : Option V), σ' = [some (.ref pt), some (natV c), some (.ref pl), some (natV s), some (natV p), o1, o2] ∧ Ex H H' ∧ Pn18.checkPlan t c 0 t.start 0 l = Pn18.checkPlan t c i s p (l.drop i)) (fun H3 e3 => ⟨t.start, 0, none, none, rfl, e12.trans e3, rfl⟩) (fun i σ' H' _ ⟨_, _, _, _, _, e3, _⟩ => sq_of (e3 _ _ hl)) (fun i x σ' H' H'' hi ⟨s, p, o1, o2, hσ, e3, hck⟩ e4 => ?_) (fun σ' H' ⟨s, p, o1, o2, hσ, e3, hck⟩ => ?_)
  · subst hσ
    rw [List.getElem?_map] at hi
    cases q : l[i]? with
    | none => rw [q] at hi; cases hi
    | some n =>
      rw [q] at hi
      cases (Option.some.inj hi)
      have e5 := e3.trans e4
      have hd : l.drop i = n :: l.drop (i + 1) := by
        obtain ⟨h1, h2⟩ := List.getElem?_eq_some_iff.mp q
        rw [List.drop_eq_getElem_cons h1, h2]
      have hstep : Pn18.checkPlan t c i s p (l.drop i) = if t.can s n = false then some [1, i] else Pn18.checkPlan t c (i + 1) ((t.act n).then_ s) (p + (t.act n).cost) (l.drop (i + 1)) := by
        rw [hd]
        rfl
      obtain ⟨la, as, h2, h3, h4, h5⟩ := acts_at T (ht.mono e5)
      refine q_when (b := !t.can s n) (et_is (et_or (b := !(t.act n).may s) (et_test (ev_op (ev_var rfl) (ev_lenN (n := t.acts.length) (h4 _ _ (ev_var rfl)) h2 (by rw [List.length_map, h3])) rv_I0)) (fun hlt => ?_)) ?_) (fun hb H6 e6 => ?_) (fun hb H6 e6 => ?_)
      · have hlt : n < t.acts.length := by
          have := of_decide_eq_false hlt
          omega
        obtain ⟨a, ha, hact⟩ := act_ix h3 h5 hlt
        exact et_not (et_B (ev_call (ea_cons (ev_ixN (i := n) (h4 _ _ (ev_var rfl)) (ev_var rfl) h2 ha) (ea_cons (ev_var rfl) ea_nil)) (spv_may hact)))
      · unfold Pn.Task.can
        by_cases g : n < t.acts.length
        · rw [decide_eq_false (by omega), decide_eq_true g, Bool.false_or, Bool.true_and]
        · rw [decide_eq_true (by omega), decide_eq_false g]
          rfl
      · have hc : t.can s n = false := by simpa using hb
        refine s_retL (xs := [1, i].map natV) (el_lst (ea_cons ev_c (ea_cons (ev_var rfl) ea_nil)) (by show 2 ≤ 100000; decide)) (fun r H7 hr e7 h7 => k r H7 (fresh_back (e5.trans e6) hr) ((e5.trans e6).trans e7) ?_)
        rw [hck, hstep, if_pos hc]
        exact h7
      · have hc : t.can s n = true := by simpa using hb
        have hlt : n < t.acts.length := by
          unfold Pn.Task.can at hc
          exact of_decide_eq_true (Bool.and_eq_true_iff.mp hc).1
        obtain ⟨la, as, h2, h3, h4, h5⟩ := acts_at T (ht.mono (e5.trans e6))
        obtain ⟨a, ha, hact⟩ := act_ix h3 h5 hlt
        refine q_asg (v := natV ((t.act n).then_ s)) (ev_call (ea_cons (ev_ixN (i := n) (h4 _ _ (ev_var rfl)) (ev_var rfl) h2 ha) (ea_cons (ev_var rfl) ea_nil)) (spv_behind hact)) (fun H7 e7 => ?_)
        refine s_aug (a := (p : Int)) (b := ((t.act n).cost : Int)) rfl (ev_cost T (hact.ex e7) (ev_ixN (i := n) ((h4 _ _ (ev_var rfl)).mono e7) (ev_var rfl) (e7 _ _ h2) ha)) (fun H8 e8 => ⟨(t.act n).then_ s, p + (t.act n).cost, some (natV i), some (natV n), ?_, ((e5.trans e6).trans e7).trans e8, ?_⟩)
        · have : V.int ((p : Int) + ((t.act n).cost : Int)) = natV (p + (t.act n).cost) := by
            unfold natV
            rw [Int.natCast_add]
          rw [this]
          rfl
        · rw [hck, hstep, if_neg (by rw [hc]; decide)]
  · subst hσ
    rw [List.length_map, List.drop_length] at hck
    have hend : Pn18.checkPlan t c l.length s p [] = if t.done s = false then some [2] else if c < p then some [3, p] else none := rfl
    rw [hck, hend] at k
    refine q_when (b := !t.done s) (et_not (et_B (ev_call (ea_cons (ev_var rfl) (ea_cons (ev_var rfl) ea_nil)) (spv_wanted (ht.mono e3))))) (fun hb H4 e4 => ?_) (fun hb H4 e4 => ?_)
    · have hb : t.done s = false := by simpa using hb
      rw [if_pos hb] at k
      exact s_retL (xs := [natV 2]) (el_lst (ea_cons ev_c ea_nil) (by show 1 ≤ 100000; decide)) (fun r H5 hr e5 h5 => k r H5 (fresh_back (e3.trans e4) hr) ((e3.trans e4).trans e5) h5)
    have hb : t.done s = true := by simpa using hb
    rw [if_neg (by rw [hb]; decide)] at k
    refine q_when (b := decide ((c : Int) < (p : Int))) (et_test (ev_op (ev_var rfl) (ev_var rfl) rv_I0)) (fun hb2 H5 e5 => ?_) (fun hb2 H5 e5 => ?_)
    · have hb2 : c < p := by
        have := of_decide_eq_true hb2
        omega
      rw [if_pos hb2] at k
      exact s_retL (xs := [natV 3, natV p]) (el_lst (ea_cons ev_c (ea_cons (ev_var rfl) ea_nil)) (by show 2 ≤ 100000; decide)) (fun r H6 hr e6 h6 => k r H6 (fresh_back ((e3.trans e4).trans e5) hr) (((e3.trans e4).trans e5).trans e6) h6)
    · have hb2 : ¬ c < p := by
        have := of_decide_eq_false hb2
        omega
      rw [if_neg hb2] at k
      exact s_retL (xs := [natV 0]) (el_lst (ea_cons ev_c ea_nil) (by show 1 ≤ 100000; decide)) (fun r H6 hr e6 h6 => k r H6 (fresh_back ((e3.trans e4).trans e5) hr) (((e3.trans e4).trans e5).trans e6) h6)
/-! ### the calls, read -/
structure C where
  num : Nat
  ns : List Nat
  rows : List (List Nat)
def flatRows : List (List Nat) → List Nat
  | [] => []
  | r :: l => r.length :: (r ++ flatRows l)
def flatC (c : C) : List Nat := c.num :: c.ns.length :: (c.ns ++ c.rows.length :: flatRows c.rows)
def flatCs : List C → List Nat
  | [] => []
  | c :: l => flatC c ++ flatCs l
def callF (v1 v2 v3 : V) : List (Str × V) := [("number", v1), ("numbers", v2), ("lists", v3)]
structure CallAt (A : Ad) (H : Hp) (p : Addr) (c : C) : Prop where
  ex : ∃ (dx ln ll : Addr) (ys : List V), H p = some (.ins A.call dx (callF (natV c.num) (.ref ln) (.ref ll))) ∧ H ln = some (.lst (c.ns.map natV)) ∧ H ll = some (.lst ys) ∧ ListsAt H ys (c.rows.map fun r => r.map natV)
theorem CallAt.mono {H H' : Hp} {p : Addr} {c : C} (e : Ex H H') (h : CallAt A H p c) : CallAt A H' p c := by
  obtain ⟨dx, ln, ll, ys, h1, h2, h3, h4⟩ := h.ex
  exact ⟨dx, ln, ll, ys, e _ _ h1, e _ _ h2, e _ _ h3, h4.ex e⟩
def sp_Call___init__ (_ : PySem.W.Frag) (A : Ad) : Sp := fun vs H Q _ => ∃ (G : Hp) (p dx : Addr) (v1 v2 v3 : V), vs = [.ref p, v1, v2, v3] ∧ G p = none ∧ Ex G H ∧ H p = some (.ins A.call dx []) ∧ ∀ H', Ex G H' → H' p = some (.ins A.call dx (callF v1 v2 v3)) → Q .non H'
theorem d_Call___init__ (T : Top K mg A) (F : Fun K "__init__" "Call.__init__" s_Call___init__ f fd) (hf : mg "Call" = some (.ref A.call)) (hM : Mk K A.call f)  : DefC P w K mg base "Call" A.call 1 ["self", "number", "numbers", "lists"] (sp_Call___init__ K A) := by
  refine ⟨f, fd, hf, hM, F.binds (fun _ _ _ _ _ _ us hl => match us, hl with | [_, _, _, _], _ => rfl), F.ok sc_Call___init__ (fun vs H Q E h => ?_) (fun cdv A' outer s H vs Q E hr h => ?_)⟩
  · obtain ⟨G, p, dx, v1, v2, v3, rfl, hG, e0, hp, k⟩ := h
    rfl
  obtain ⟨G, p, dx, v1, v2, v3, rfl, hG, e0, hp, k⟩ := h
  refine ⟨_, (pss_cons (ps_fld (pv 0) (pv 1) rfl) (pss_cons (ps_fld (pv 0) (pv 2) rfl) (pss_one (ps_fld (pv 0) (pv 3) rfl)))), ?_⟩
  refine q_fld (G := G) (v := v1) hp e0 (ev_var rfl) (ev_var rfl) T.cCall T.nNumber (by decide) hG (fun H2 e2 hp2 => ?_)
  refine q_fld (G := G) (v := v2) hp2 e2 (ev_var rfl) (ev_var rfl) T.cCall T.nNumbers (by show 1 < 1000; decide) hG (fun H3 e3 hp3 => ?_)
  refine s_fld (G := G) (v := v3) hp3 e3 (ev_var rfl) (ev_var rfl) T.cCall T.nLists (by show 2 < 1000; decide) hG (fun H4 e4 hp4 => ?_)
  exact k H4 e4 hp4
def sp_counted (K : PySem.W.Frag) (_ : Ad) : Sp := spL fun vs H xs => ∃ (p : Addr) (pre row post : List Nat), vs = [.ref p, natV pre.length] ∧ SqL K H p ((pre ++ row.length :: (row ++ post)).map natV) ∧ xs = row.map natV
theorem cut_row (pre row post : List Nat) : cutV ((pre ++ row.length :: (row ++ post)).map natV) (some ((pre.length + 1 : Nat) : Int)) (some ((pre.length + 1 + row.length : Nat) : Int)) = row.map natV := by
  unfold cutV
  rw [HT.sIx_nat, HT.sIx_nat]
  have hl : ((pre ++ row.length :: (row ++ post)).map natV).length = pre.length + (row.length + post.length + 1) := by
    rw [List.length_map, List.length_append, List.length_cons, List.length_append]
  rw [hl, Nat.min_eq_left (by omega), Nat.min_eq_left (by omega), Nat.add_sub_cancel_left, ← List.map_drop, ← List.map_take]
  congr 1
  have h1 : (pre ++ row.length :: (row ++ post)).drop (pre.length + 1) = row ++ post := by
    rw [← List.drop_drop, List.drop_left]
    rfl
  rw [h1, List.take_left]
theorem at_pre (pre : List Nat) (n : Nat) (post : List Nat) : ((pre ++ n :: post).map natV)[pre.length]? = some (natV n) := by
  rw [List.getElem?_map, List.getElem?_append_right (Nat.le_refl _), Nat.sub_self]
  rfl
theorem d_counted (T : Top K mg A) (F : Fun K "counted" "counted" s_counted f fd) (hf : mg "counted" = some (.ref f))  : Def P w K mg base "counted" 1 ["told", "at"] (sp_counted K A) := by
  refine ⟨f, fd, hf, F.kp, F.binds (fun _ _ _ _ _ _ us hl => match us, hl with | [_, _], _ => rfl), F.ok sc_counted (fun vs H Q E h => ?_) (fun cdv A' outer s H vs Q E hr h => ?_)⟩
  · obtain ⟨z, ⟨p, pre, row, post, rfl, hp, rfl⟩, k⟩ := h
    rfl
  obtain ⟨z, ⟨p, pre, row, post, rfl, hp, rfl⟩, k⟩ := h
  refine ⟨_, (pss_one (ps_ret (pe_slice (sl_listK (K := K) rfl) (pv 0) (po_some (pe_op op_add (pv 1) pe_int)) (po_some (pe_op op_add (pe_op op_add (pv 1) pe_int) (pe_ix (ix_listK (K := K) rfl) (pv 0) (pv 1) (fun _ _ => rfl))))))), ?_⟩
  refine s_retL (xs := row.map natV) ?_ (fun q H1 hq e h => k q H1 hq e h)
  rw [← cut_row pre row post]
  exact el_sl (ev_var rfl) (eo_some (ev_addN (ev_var rfl) ev_c)) (eo_some (ev_addN (ev_addN (b := 1) (ev_var rfl) ev_c) (ev_ixL (i := pre.length) (ev_var rfl) (ev_var rfl) hp (at_pre pre _ _)))) hp
end
end PC

set_option Elab.async false
set_option linter.all false
set_option maxRecDepth 100000
set_option maxHeartbeats 2000000
namespace PC
open PySem PySem.Spec PyProof.Rows L2 Evl
section
variable {P : Program} {w : World} {K : PySem.W.Frag} {mg : Str → Option Value} {base : Heap} {A : Ad} {f : Addr} {fd : FuncData}
theorem flatCs_append : ∀ (a b : List C), flatCs (a ++ b) = flatCs a ++ flatCs b
  | [], _ => rfl
  | c :: a, b => by
    show flatC c ++ flatCs (a ++ b) = (flatC c ++ flatCs a) ++ flatCs b
    rw [flatCs_append a b, List.append_assoc]
theorem flatRows_append : ∀ (a b : List (List Nat)), flatRows (a ++ b) = flatRows a ++ flatRows b
  | [], _ => rfl
  | r :: a, b => by
    show r.length :: (r ++ flatRows (a ++ b)) = r.length :: ((r ++ flatRows a) ++ flatRows b)
    rw [flatRows_append a b, List.append_assoc]
theorem flatRows_len : ∀ a : List (List Nat), a.length ≤ (flatRows a).length
  | [] => Nat.le_refl _
  | r :: a => by
    have := flatRows_len a
    show a.length + 1 ≤ (r.length :: (r ++ flatRows a)).length
    rw [List.length_cons, List.length_append]
    omega
theorem flatCs_len : ∀ a : List C, a.length ≤ (flatCs a).length
  | [] => Nat.le_refl _
  | c :: a => by
    have := flatCs_len a
    show a.length + 1 ≤ (flatC c ++ flatCs a).length
    rw [List.length_append]
    unfold flatC
    rw [List.length_cons]
    omega
/-- xs.append(e), e by what holds of it -/
theorem s_appP {σ : L2.St} {H : Hp} {ta te : TE} {D : Ends} {l : Addr} {xs : List V} {Y : V → Hp → Prop} (hl : H l = some (.lst xs)) (ha : Ev ta σ H (.ref l)) (h : EvP te σ H Y) (hz : xs.length < 100000) (k : ∀ v H1, Ex H H1 → Y v H1 → D.nx σ (upd H1 l (.lst (xs ++ [v])))) :
    tDrop (tBM K "list" rAppend ta (tCons te tNil)) D σ H := ha H (Ex.refl H) _ fun H1 e1 =>
  ⟨Or.inl ⟨rfl, xs, sq_of (e1 l _ hl)⟩, h H1 e1 _ fun v H2 e2 y => ⟨l, xs, v, rfl, rfl, e2 l _ (e1 l _ hl), sz_lt hz, k v H2 (e1.trans e2) y⟩⟩
theorem q_whileB {σ : L2.St} {H : Hp} {t : TT} {D : Ends} {tu tz : TS} (W : Nat → L2.St → Hp → Prop) (m0 : Nat) (h0 : W m0 σ H)
    (hs : ∀ m σ' H', W m σ' H' → ∃ b, EvT t σ' H' b ∧ (b = true → ∀ H1, Ex H' H1 → ∃ N : L2.St → Hp → Prop, (∀ σ2 H2, N σ2 H2 → ∃ m', m' < m ∧ W m' σ2 H2) ∧ tu { D with nx := N, ct := N, bk := tz D } σ' H1) ∧ (b = false → ∀ H1, Ex H' H1 → tz D σ' H1)) : tSeq (tWhile t tu) tz D σ H := q_while W m0 h0 hs
/-- the heap but one address -/
def less (H : Hp) (p : Addr) : Hp := fun b => if b = p then none else H b
theorem less_at {H : Hp} {p : Addr} : less H p p = none := if_pos rfl
theorem less_ne {H : Hp} {p b : Addr} (h : b ≠ p) : less H p b = H b := if_neg h
theorem less_ex {H : Hp} {p : Addr} : Ex (less H p) H := fun b o h => by
  by_cases z : b = p
  · subst z
    rw [less_at] at h
    cases h
  · rw [less_ne z] at h
    exact h
/-- what is new, but one address -/
def newBut (H : Hp) (p : Addr) (H2 : Hp) : Hp := fun b => match H b with
  | none => less H2 p b
  | some _ => none
theorem newBut_old {H H2 : Hp} {p x : Addr} {o : HO} (h : H x = some o) : newBut H p H2 x = none := by
  unfold newBut
  rw [h]
theorem newBut_ne {H H2 : Hp} {p b : Addr} (h : H b = none) (hn : b ≠ p) : newBut H p H2 b = H2 b := by
  unfold newBut
  rw [h]
  exact less_ne hn
theorem newBut_at {H H2 : Hp} {p : Addr} : newBut H p H2 p = none := by
  unfold newBut
  cases H p with
  | none => exact less_at
  | some o => rfl
theorem newBut_ex {H H2 : Hp} {p : Addr} : Ex (newBut H p H2) H2 := fun b o h => by
  unfold newBut at h
  cases q : H b with
  | none =>
    rw [q] at h
    exact less_ex _ _ h
  | some u =>
    rw [q] at h
    cases h
/-- a call that is new since H -/
def NewCall (A : Ad) (H H2 : Hp) (a : Addr) (c : C) : Prop := ∃ G : Hp, Ex G H2 ∧ (∀ x o, H x = some o → G x = none) ∧ CallAt A G a c
def sp_read_calls (K : PySem.W.Frag) (A : Ad) : Sp := spP fun vs H Y => ∃ p cs, vs = [.ref p] ∧ SqL K H p ((flatCs cs).map natV) ∧ (flatCs cs).length ≤ 13000 ∧ Y = fun v H2 => ∃ q ps, v = .ref q ∧ H q = none ∧ H2 q = some (.lst (ps.map V.ref)) ∧ F2 (NewCall A H H2) ps cs
theorem d_read_calls (T : Top K mg A) (F : Fun K "read_calls" "read_calls" s_read_calls f fd) (hf : mg "read_calls" = some (.ref f)) (D_Call : DefC P w K mg base "Call" A.call 1 ["self", "number", "numbers", "lists"] (sp_Call___init__ K A)) (D_counted : Def P w K mg base "counted" 1 ["told", "at"] (sp_counted K A)) : Def P w K mg base "read_calls" 3 ["told"] (sp_read_calls K A) := by
  obtain ⟨f_Call, fd_Call, g_Call, M_Call, b_Call, G_Call⟩ := D_Call
  obtain ⟨f_counted, fd_counted, g_counted, k_counted, b_counted, G_counted⟩ := D_counted
  refine ⟨f, fd, hf, F.kp, F.binds (fun _ _ _ _ _ _ us hl => match us, hl with | [_], _ => rfl), F.ok sc_read_calls (fun vs H Q E h => ?_) (fun cdv A' outer s H vs Q E hr h => ?_)⟩
  · obtain ⟨Y, ⟨p, cs, rfl, hS, hL, rfl⟩, k⟩ := h
    rfl
  obtain ⟨Y, ⟨p, cs, rfl, hS, hL, rfl⟩, k⟩ := h
  refine ⟨_, (pss_cons (ps_set (i := 1) sc_read_calls.nd rfl (by first | exact Or.inl rfl | exact Or.inr rfl) (pe_lst pa_nil)) (pss_cons (ps_set (i := 2) sc_read_calls.nd rfl (by first | exact Or.inl rfl | exact Or.inr rfl) pe_int) (pss_cons (ps_while PassesOwn.never (pt_cmpR op_lt (pv 2) (pe_callB (call_lenK (K := K) rfl) (by rfl) T.b_len (by decide +kernel) (pa_cons (pv 0) pa_nil)) (nomark _)) (pss_cons (ps_set (i := 3) sc_read_calls.nd rfl (by first | exact Or.inl rfl | exact Or.inr rfl) (pe_ix (ix_listK (K := K) rfl) (pv 0) (pv 2) (fun _ _ => rfl))) (pss_cons (ps_set (i := 4) sc_read_calls.nd rfl (by first | exact Or.inl rfl | exact Or.inr rfl) (pe_call G_counted (hr.mono (by decide)) rfl g_counted k_counted b_counted .nil pass0 (pa_cons (pv 0) (pa_cons (pe_op op_add (pv 2) pe_int) pa_nil)))) (pss_cons (ps_aug (i := 2) sc_read_calls.nd rfl (by first | exact Or.inl rfl | exact Or.inr rfl) (pe_op op_add pe_int (pe_callB (call_lenK (K := K) rfl) (by rfl) T.b_len (by decide +kernel) (pa_cons (pv 4) pa_nil))) ip_add) (pss_cons (ps_set (i := 5) sc_read_calls.nd rfl (by first | exact Or.inl rfl | exact Or.inr rfl) (pe_lst pa_nil)) (pss_cons (ps_set (i := 6) sc_read_calls.nd rfl (by first | exact Or.inl rfl | exact Or.inr rfl) (pe_ix (ix_listK (K := K) rfl) (pv 0) (pv 2) (fun _ _ => rfl))) (pss_cons (ps_aug (i := 2) sc_read_calls.nd rfl (by first | exact Or.inl rfl | exact Or.inr rfl) pe_int ip_add) (pss_cons (ps_while PassesOwn.never (pt_cmpR op_gt (pv 6) pe_int (nomark _)) (pss_cons (ps_expr (pe_bm PySem.F.plainAttrs_list PySem.F.slot_list_append PySem.F.type_list_append mt_append (pv 5) (pa_cons (pe_call G_counted (hr.mono (by decide)) rfl g_counted k_counted b_counted .nil pass0 (pa_cons (pv 0) (pa_cons (pv 2) pa_nil))) pa_nil))) (pss_cons (ps_aug (i := 2) sc_read_calls.nd rfl (by first | exact Or.inl rfl | exact Or.inr rfl) (pe_op op_add pe_int (pe_ix (ix_listK (K := K) rfl) (pv 0) (pv 2) (fun _ _ => rfl))) ip_add) (pss_one (ps_aug (i := 6) sc_read_calls.nd rfl (by first | exact Or.inl rfl | exact Or.inr rfl) pe_int ip_sub))))) (pss_one (ps_expr (pe_bm PySem.F.plainAttrs_list PySem.F.slot_list_append PySem.F.type_list_append mt_append (pv 1) (pa_cons (pe_make M_Call G_Call (hr.mono (by decide)) rfl g_Call b_Call .nil pass0 (pa_cons (pv 3) (pa_cons (pv 4) (pa_cons (pv 5) pa_nil)))) pa_nil)))))))))))) (pss_one (ps_ret (pv 1)))))), ?_⟩
  refine q_asgL (xs := []) (el_lst ea_nil (by decide)) (fun pc H1 hpc e1 h1 => ?_)
  refine q_asg (v := natV 0) ev_c (fun H2 e2 => ?_)
  refine q_while (fun m σ' H' => ∃ (done rest : List C) (ps : List Addr) (o3 o4 o5 o6 : Option V), m = rest.length ∧ cs = done ++ rest ∧ σ' = [some (.ref p), some (.ref pc), some (natV (flatCs done).length), o3, o4, o5, o6] ∧ Ex H H' ∧ H' pc = some (.lst (ps.map V.ref)) ∧ F2 (fun a c => ∃ G : Hp, Ex G H' ∧ G pc = none ∧ (∀ x o, H x = some o → G x = none) ∧ CallAt A G a c) ps done)
    cs.length ⟨[], cs, [], none, none, none, none, rfl, rfl, rfl, e1.trans e2, e2 _ _ h1, .nil⟩ (fun m σ' H' ⟨done, rest, ps, o3, o4, o5, o6, hm, hcs, hσ, e, hc, hf⟩ => ?_)
  subst hm hσ
  have hS1 := ex_l e hS
  have htot : (flatCs cs).length = (flatCs done).length + (flatCs rest).length := by rw [hcs, flatCs_append, List.length_append]
  refine ⟨decide (((flatCs done).length : Int) < ((flatCs cs).length : Int)), et_test (ev_op (ev_var rfl) (ev_is (ev_len (ev_var rfl) hS1) (by rw [List.length_map])) rv_I0), fun hb H3 e3 => ?_, fun hb H3 e3 => ?_⟩
  · cases rest with
    | nil =>
      have := of_decide_eq_true hb
      rw [htot] at this
      have h0 : (flatCs ([] : List C)).length = 0 := rfl
      omega
    | cons c r =>
      have e03 := e.trans e3
      -- the list of calls, from the left
      have f0 : flatCs cs = flatCs done ++ c.num :: (c.ns.length :: (c.ns ++ (c.rows.length :: (flatRows c.rows ++ flatCs r)))) := by
        rw [hcs, flatCs_append]
        show _ ++ (flatC c ++ flatCs r) = _
        unfold flatC
        simp only [List.cons_append, List.append_assoc]
      have f1 : flatCs cs = (flatCs done ++ [c.num]) ++ c.ns.length :: (c.ns ++ (c.rows.length :: (flatRows c.rows ++ flatCs r))) := by
        rw [f0]
        simp only [List.append_assoc, List.cons_append, List.nil_append]
      have f2 : flatCs cs = (flatCs done ++ c.num :: c.ns.length :: c.ns) ++ c.rows.length :: (flatRows c.rows ++ flatCs r) := by
        rw [f0]
        simp only [List.append_assoc, List.cons_append]
      have f3 : ∀ (d : List (List Nat)) (x : List Nat) (y : List (List Nat)), c.rows = d ++ x :: y → flatCs cs = (flatCs done ++ c.num :: c.ns.length :: (c.ns ++ c.rows.length :: flatRows d)) ++ x.length :: (x ++ (flatRows y ++ flatCs r)) := fun d x y hd => by
        rw [f0]
        have : flatRows c.rows = flatRows d ++ x.length :: (x ++ flatRows y) := by
          rw [hd, flatRows_append]
          rfl
        rw [this]
        simp only [List.append_assoc, List.cons_append]
      have hnl : c.ns.length ≤ 13000 ∧ c.rows.length ≤ 13000 ∧ done.length ≤ 13000 := by
        have a := flatRows_len c.rows
        have b := flatCs_len done
        have := congrArg List.length f0
        simp only [List.length_append, List.length_cons] at this
        omega
      have hpsl : ps.length ≤ 13000 := by
        rw [hf.len]
        exact hnl.2.2
      have hpcH : H pc = none := hpc
      refine ⟨fun σ2 H2 => ∃ (pq : Addr) (o3 o4 o5 o6 : Option V), σ2 = [some (.ref p), some (.ref pc), some (natV (flatCs (done ++ [c])).length), o3, o4, o5, o6] ∧ Ex H H2 ∧ H2 pc = some (.lst ((ps ++ [pq]).map V.ref)) ∧ F2 (fun a c => ∃ G : Hp, Ex G H2 ∧ G pc = none ∧ (∀ x o, H x = some o → G x = none) ∧ CallAt A G a c) (ps ++ [pq]) (done ++ [c]), fun σ2 H2 ⟨pq, o3, o4, o5, o6, g1, g2, g3, g4⟩ => ⟨r.length, Nat.lt_succ_self _, done ++ [c], r, ps ++ [pq], o3, o4, o5, o6, rfl, by rw [hcs, List.append_assoc]; rfl, g1, g2, g3, g4⟩, ?_⟩
      refine q_asg (v := natV c.num) (ev_ixL (i := (flatCs done).length) (ev_var rfl) (ev_var rfl) (ex_l e03 hS) (by rw [f0]; exact at_pre _ _ _)) (fun H4 e4 => ?_)
      refine q_asgL (xs := c.ns.map natV) (el_call (vs := [.ref p, natV (flatCs done ++ [c.num]).length]) (ea_cons (ev_var rfl) (ea_cons (ev_is (ev_addN (b := 1) (ev_var rfl) ev_c) (by rw [List.length_append]; rfl)) ea_nil)) (spL_of fun H5 e5 => ⟨p, flatCs done ++ [c.num], c.ns, c.rows.length :: (flatRows c.rows ++ flatCs r), rfl, by rw [← f1]; exact ex_l ((e03.trans e4).trans e5) hS, rfl⟩)) (fun ln H5 hln e5 h5 => ?_)
      refine q_aug (a := ((flatCs done).length : Int)) (b := ((2 + c.ns.length : Nat) : Int)) rfl (ev_addN (a := 2) ev_c (ev_lenN (ev_var rfl) h5 (by rw [List.length_map]))) (fun H6 e6 => ?_)
      have ea : ((flatCs done).length : Int) + ((2 + c.ns.length : Nat) : Int) = ((flatCs done ++ c.num :: c.ns.length :: c.ns).length : Int) := by
        simp only [List.length_append, List.length_cons]
        omega
      rw [ea]
      refine q_asgL (xs := []) (el_lst ea_nil (by decide)) (fun ll H7 hll e7 h7 => ?_)
      have e37 := ((e4.trans e5).trans e6).trans e7
      refine q_asg (v := natV c.rows.length) (ev_ixL (i := (flatCs done ++ c.num :: c.ns.length :: c.ns).length) (ev_var rfl) (ev_var rfl) (ex_l (e03.trans e37) hS) (by rw [f2]; exact at_pre _ _ _)) (fun H8 e8 => ?_)
      refine q_aug (a := ((flatCs done ++ c.num :: c.ns.length :: c.ns).length : Int)) (b := 1) rfl ev_c (fun H9 e9 => ?_)
      have ea2 : ((flatCs done ++ c.num :: c.ns.length :: c.ns).length : Int) + 1 = ((flatCs done ++ c.num :: c.ns.length :: (c.ns ++ c.rows.length :: flatRows [])).length : Int) := by
        show _ = ((flatCs done ++ c.num :: c.ns.length :: (c.ns ++ [c.rows.length])).length : Int)
        simp only [List.length_append, List.length_cons, List.length_nil]
        omega
      rw [ea2]
      have e46 : Ex H3 H6 := (e4.trans e5).trans e6
      have hpc6 : H6 pc = some (.lst (ps.map V.ref)) := e46 _ _ (e3 _ _ hc)
      have hln6 : H6 ln = some (.lst (c.ns.map natV)) := e6 _ _ h5
      have npl : ll ≠ pc := fun z => by
        rw [z, hpc6] at hll
        cases hll
      have nln : ln ≠ pc := fun z => by
        rw [z, e4 _ _ (e3 _ _ hc)] at hln
        cases hln
      refine q_whileB (fun m σ' H' => ∃ (d y : List (List Nat)) (zs : List V), m = y.length ∧ c.rows = d ++ y ∧ σ' = [some (.ref p), some (.ref pc), some (natV (flatCs done ++ c.num :: c.ns.length :: (c.ns ++ c.rows.length :: flatRows d)).length), some (natV c.num), some (.ref ln), some (.ref ll), some (natV y.length)] ∧ Ex H6 H' ∧ H' ll = some (.lst zs) ∧ (∀ q, V.ref q ∈ zs → q ≠ ll ∧ H6 q = none) ∧ ListsAt H' zs (d.map fun r => r.map natV))
        c.rows.length ⟨[], c.rows, [], rfl, rfl, rfl, (e7.trans e8).trans e9, e9 _ _ (e8 _ _ h7), (fun _ h => by cases h), rfl, fun j x hx => by cases hx⟩ (fun m σ' H' ⟨d, y, zs, hm, hd, hσ, e10, h10, hz10, l10⟩ => ?_)
      subst hm hσ
      have e010 := (e03.trans e46).trans e10
      refine ⟨decide ((0 : Int) < (y.length : Int)), et_test (ev_op (ev_var rfl) ev_c rv_I0), fun hb2 H11 e11 => ?_, fun hb2 H11 e11 => ?_⟩
      · cases y with
        | nil =>
          have := of_decide_eq_true hb2
          have h0 : (([] : List (List Nat)).length : Int) = 0 := rfl
          omega
        | cons x y =>
          have f4 := f3 d x y hd
          have hzl : zs.length ≤ 13000 := by
            have a := l10.1
            have b := congrArg List.length hd
            rw [List.length_map] at a
            rw [List.length_append] at b
            omega
          refine ⟨fun σ2 H2 => ∃ zs' : List V, σ2 = [some (.ref p), some (.ref pc), some (natV (flatCs done ++ c.num :: c.ns.length :: (c.ns ++ c.rows.length :: flatRows (d ++ [x]))).length), some (natV c.num), some (.ref ln), some (.ref ll), some (natV y.length)] ∧ Ex H6 H2 ∧ H2 ll = some (.lst zs') ∧ (∀ q, V.ref q ∈ zs' → q ≠ ll ∧ H6 q = none) ∧ ListsAt H2 zs' ((d ++ [x]).map fun r => r.map natV), fun σ2 H2 ⟨zs', g1, g2, g3, g4, g5⟩ => ⟨y.length, Nat.lt_succ_self _, d ++ [x], y, zs', rfl, by rw [hd, List.append_assoc]; rfl, g1, g2, g3, g4, g5⟩, ?_⟩
          refine q_appL (xs := zs) (ys := x.map natV) (e11 _ _ h10) (ev_var rfl) (el_call (vs := [.ref p, natV (flatCs done ++ c.num :: c.ns.length :: (c.ns ++ c.rows.length :: flatRows d)).length]) (ea_cons (ev_var rfl) (ea_cons (ev_var rfl) ea_nil)) (spL_of fun H12 e12 => ⟨p, _, x, flatRows y ++ flatCs r, rfl, by rw [← f4]; exact ex_l ((e010.trans e11).trans e12) hS, rfl⟩)) (by omega) (fun px H12 hpx e12 h12 => ?_)
          have npx : px ≠ ll := fun z => by
            rw [z, e11 _ _ h10] at hpx
            cases hpx
          have hpx6 : H6 px = none := fresh_back (e10.trans e11) hpx
          have hnew : ∀ q, V.ref q ∈ zs ++ [.ref px] → q ≠ ll ∧ H6 q = none := fun q hq => by
            rcases List.mem_append.mp hq with hq | hq
            · exact hz10 q hq
            · have := List.mem_singleton.mp hq
              injection this with this
              rw [this]
              exact ⟨npx, hpx6⟩
          have eX : Ex H6 (upd H12 ll (.lst (zs ++ [.ref px]))) := Ex.mut ((e10.trans e11).trans e12) hll
          refine q_aug (a := ((flatCs done ++ c.num :: c.ns.length :: (c.ns ++ c.rows.length :: flatRows d)).length : Int)) (b := ((1 + x.length : Nat) : Int)) rfl (ev_addN (a := 1) ev_c (ev_ixL (ev_var rfl) (ev_var rfl) (ex_l ((e03.trans e46).trans eX) hS) (by rw [f4]; exact at_pre _ _ _))) (fun H13 e13 => ?_)
          refine s_aug (a := ((y.length + 1 : Nat) : Int)) (b := 1) rfl ev_c (fun H14 e14 => ⟨zs ++ [.ref px], ?_, (eX.trans e13).trans e14, e14 _ _ (e13 _ _ upd_same), hnew, ?_⟩)
          · have q1 : ((flatCs done ++ c.num :: c.ns.length :: (c.ns ++ c.rows.length :: flatRows d)).length : Int) + ((1 + x.length : Nat) : Int) = ((flatCs done ++ c.num :: c.ns.length :: (c.ns ++ c.rows.length :: flatRows (d ++ [x]))).length : Int) := by
              rw [flatRows_append]
              show _ = ((flatCs done ++ c.num :: c.ns.length :: (c.ns ++ c.rows.length :: (flatRows d ++ x.length :: (x ++ [])))).length : Int)
              simp only [List.length_append, List.length_cons, List.length_nil]
              omega
            have q2 : ((y.length + 1 : Nat) : Int) - 1 = (y.length : Int) := by omega
            rw [q1, q2]
            rfl
          · rw [List.map_append]
            exact ((ListsAt.mut ((l10.ex (e11.trans e12)).snoc h12) fun q hq => (hnew q hq).1).ex e13).ex e14
      · have hy : y = [] := by
          cases y with
          | nil => rfl
          | cons x y =>
            have := of_decide_eq_false hb2
            rw [List.length_cons] at this
            omega
        subst hy
        rw [List.append_nil] at hd
        subst hd
        -- calls.append(Call(number, numbers, lists))
        have h11 := e11 _ _ h10
        have l11 := l10.ex e11
        have hpc11 : H11 pc = some (.lst (ps.map V.ref)) := e11 _ _ (e10 _ _ hpc6)
        refine s_appP (xs := ps.map V.ref) (Y := fun v H2 => ∃ pq dx, v = .ref pq ∧ H11 pq = none ∧ H2 pq = some (.ins A.call dx (callF (natV c.num) (.ref ln) (.ref ll)))) hpc11 (ev_var rfl) (ep_make (ea_cons (ev_var rfl) (ea_cons (ev_var rfl) (ea_cons (ev_var rfl) ea_nil))) (fun H12 pq dx e12 hpq e13 Q2 q2 => ⟨H12, pq, dx, _, _, _, rfl, hpq, e13, upd_same, fun H13 e14 h13 => ⟨rfl, q2 H13 e14 ⟨pq, dx, rfl, fresh_back e12 hpq, h13⟩⟩⟩)) (by rw [List.length_map]; omega) (fun v H12 e12 ⟨pq, dx, hv, hpq, hq12⟩ => ?_)
        subst hv
        have npq : pq ≠ pc := fun z => by
          rw [z, hpc11] at hpq
          cases hpq
        refine ⟨pq, some (natV c.num), some (.ref ln), some (.ref ll), some (natV 0), ?_, Ex.mut ((e010.trans e11).trans e12) hpcH, by rw [upd_same, List.map_append]; rfl, ?_⟩
        · have q1 : (flatCs done ++ c.num :: c.ns.length :: (c.ns ++ c.rows.length :: flatRows c.rows)).length = (flatCs (done ++ [c])).length := by
            rw [flatCs_append]
            show _ = (flatCs done ++ (flatC c ++ [])).length
            rw [List.append_nil]
            rfl
          rw [q1]
          rfl
        · refine F2.app (hf.imp fun a x ⟨G, g1, g2, g3⟩ => ⟨G, Ex.mut (((((g1.trans e3).trans e46).trans e10).trans e11).trans e12) g2, g2, g3⟩) (.cons ⟨newBut H pc H12, ?_, newBut_at, (fun x o hx => newBut_old hx), ?_⟩ .nil)
          · exact Ex.mut newBut_ex newBut_at
          · refine ⟨dx, ln, ll, zs, ?_, ?_, ?_, ?_⟩
            · rw [newBut_ne (fresh_back (e010.trans e11) hpq) npq]
              exact hq12
            · rw [newBut_ne (fresh_back (e03.trans e4) hln) nln]
              exact e12 _ _ (e11 _ _ (e10 _ _ hln6))
            · rw [newBut_ne (fresh_back (e03.trans e46) hll) npl]
              exact e12 _ _ h11
            · refine ⟨l11.1, fun j x hx => ?_⟩
              obtain ⟨q, g1, g2⟩ := (l11.ex e12).2 j x hx
              refine ⟨q, g1, ?_⟩
              have hq6 := (hz10 q (List.mem_of_getElem? g1)).2
              rw [newBut_ne (fresh_back (e03.trans e46) hq6)]
              · exact g2
              · intro z
                rw [z, hpc6] at hq6
                cases hq6
  · cases rest with
    | cons c r =>
      have := of_decide_eq_false hb
      rw [htot] at this
      have h0 := flatCs_len (c :: r)
      rw [List.length_cons] at h0
      omega
    | nil =>
      rw [List.append_nil] at hcs
      subst hcs
      exact s_ret (ev_var rfl) (fun H4 e4 => k _ _ ((e.trans e3).trans e4) ⟨pc, ps, rfl, hpc, e4 _ _ (e3 _ _ hc), hf.imp fun a x ⟨G, g1, g2, g3, g4⟩ => ⟨G, (g1.trans e3).trans e4, g3, g4⟩⟩)
end
end PC

set_option Elab.async false
set_option linter.all false
set_option maxRecDepth 100000
set_option maxHeartbeats 2000000
namespace PC
open PySem PySem.Spec PyProof.Rows L2 Evl
section
variable {P : Program} {w : World} {K : PySem.W.Frag} {mg : Str → Option Value} {base : Heap} {A : Ad} {f : Addr} {fd : FuncData}
/-! ### the house -/
abbrev s_Act___init__ : Stmt := inClass (top 1) 0
abbrev N_Act___init__ : List Str := ["self", "needs", "bars", "brings", "takes", "cost"]
theorem sc_Act___init__ : FnScope N_Act___init__ ["self", "needs", "bars", "brings", "takes", "cost"] (defScope s_Act___init__) := ⟨rfl, rfl, rfl, by decide +kernel, rfl, by decide +kernel, by decide +kernel⟩
abbrev s_Task___init__ : Stmt := inClass (top 2) 0
abbrev N_Task___init__ : List Str := ["self", "facts", "so", "wanted", "acts"]
theorem sc_Task___init__ : FnScope N_Task___init__ ["self", "facts", "so", "wanted", "acts"] (defScope s_Task___init__) := ⟨rfl, rfl, rfl, by decide +kernel, rfl, by decide +kernel, by decide +kernel⟩
abbrev s_House___init__ : Stmt := inClass (top 79) 0
abbrev N_House___init__ : List Str := ["self"]
theorem sc_House___init__ : FnScope N_House___init__ ["self"] (defScope s_House___init__) := ⟨rfl, rfl, rfl, by decide +kernel, rfl, by decide +kernel, by decide +kernel⟩
abbrev s_House_begins : Stmt := inClass (top 79) 1
abbrev N_House_begins : List Str := ["self", "facts", "so", "wanted"]
theorem sc_House_begins : FnScope N_House_begins ["self", "facts", "so", "wanted"] (defScope s_House_begins) := ⟨rfl, rfl, rfl, by decide +kernel, rfl, by decide +kernel, by decide +kernel⟩
abbrev s_House_act : Stmt := inClass (top 79) 2
abbrev N_House_act : List Str := ["self", "row", "task", "told"]
theorem sc_House_act : FnScope N_House_act ["self", "row"] (defScope s_House_act) := ⟨rfl, rfl, rfl, by decide +kernel, rfl, by decide +kernel, by decide +kernel⟩
abbrev s_House_from_state : Stmt := inClass (top 79) 3
abbrev N_House_from_state : List Str := ["self", "so", "wanted", "task"]
theorem sc_House_from_state : FnScope N_House_from_state ["self", "so", "wanted"] (defScope s_House_from_state) := ⟨rfl, rfl, rfl, by decide +kernel, rfl, by decide +kernel, by decide +kernel⟩
abbrev s_House_own : Stmt := inClass (top 79) 4
abbrev N_House_own : List Str := ["self", "kind", "proof"]
theorem sc_House_own : FnScope N_House_own ["self", "kind"] (defScope s_House_own) := ⟨rfl, rfl, rfl, by decide +kernel, rfl, by decide +kernel, by decide +kernel⟩
abbrev s_House_plan : Stmt := inClass (top 79) 5
abbrev N_House_plan : List Str := ["self", "claim", "acts"]
theorem sc_House_plan : FnScope N_House_plan ["self", "claim", "acts"] (defScope s_House_plan) := ⟨rfl, rfl, rfl, by decide +kernel, rfl, by decide +kernel, by decide +kernel⟩
abbrev s_is_act_row : Stmt := top 76
abbrev N_is_act_row : List Str := ["row", "facts", "group"]
theorem sc_is_act_row : FnScope N_is_act_row ["row", "facts"] (defScope s_is_act_row) := ⟨rfl, rfl, rfl, by decide +kernel, rfl, by decide +kernel, by decide +kernel⟩
def sp_Act___init__ (_ : PySem.W.Frag) (A : Ad) : Sp := fun vs H Q _ => ∃ (G : Hp) (p dx : Addr) (a : Pn.Act), vs = [.ref p, natV a.pre, natV a.no, natV a.add, natV a.del, natV a.cost] ∧ G p = none ∧ Ex G H ∧ H p = some (.ins A.act dx []) ∧ ∀ H', Ex G H' → ActAt A H' p a → Q .non H'
theorem d_Act___init__ (T : Top K mg A) (F : Fun K "__init__" "Act.__init__" s_Act___init__ f fd) (hf : mg "Act" = some (.ref A.act)) (hM : Mk K A.act f)  : DefC P w K mg base "Act" A.act 1 ["self", "needs", "bars", "brings", "takes", "cost"] (sp_Act___init__ K A) := by
  refine ⟨f, fd, hf, hM, F.binds (fun _ _ _ _ _ _ us hl => match us, hl with | [_, _, _, _, _, _], _ => rfl), F.ok sc_Act___init__ (fun vs H Q E h => ?_) (fun cdv A' outer s H vs Q E hr h => ?_)⟩
  · obtain ⟨G, p, dx, a, rfl, hG, e0, hp, k⟩ := h
    rfl
  obtain ⟨G, p, dx, a, rfl, hG, e0, hp, k⟩ := h
  refine ⟨_, (pss_cons (ps_fld (pv 0) (pv 1) rfl) (pss_cons (ps_fld (pv 0) (pv 2) rfl) (pss_cons (ps_fld (pv 0) (pv 3) rfl) (pss_cons (ps_fld (pv 0) (pv 4) rfl) (pss_one (ps_fld (pv 0) (pv 5) rfl)))))), ?_⟩
  refine q_fld (G := G) (v := natV a.pre) hp e0 (ev_var rfl) (ev_var rfl) T.cAct T.nNeeds (by decide) hG (fun H2 e2 hp2 => ?_)
  refine q_fld (G := G) (v := natV a.no) hp2 e2 (ev_var rfl) (ev_var rfl) T.cAct T.nBars (by show 1 < 1000; decide) hG (fun H3 e3 hp3 => ?_)
  refine q_fld (G := G) (v := natV a.add) hp3 e3 (ev_var rfl) (ev_var rfl) T.cAct T.nBrings (by show 2 < 1000; decide) hG (fun H4 e4 hp4 => ?_)
  refine q_fld (G := G) (v := natV a.del) hp4 e4 (ev_var rfl) (ev_var rfl) T.cAct T.nTakes (by show 3 < 1000; decide) hG (fun H5 e5 hp5 => ?_)
  refine s_fld (G := G) (v := natV a.cost) hp5 e5 (ev_var rfl) (ev_var rfl) T.cAct T.nCost (by show 4 < 1000; decide) hG (fun H6 e6 hp6 => ?_)
  exact k H6 e6 ⟨dx, hp6⟩
def sp_Task___init__ (_ : PySem.W.Frag) (A : Ad) : Sp := fun vs H Q _ => ∃ (G : Hp) (p dx la : Addr) (t : Pn.Task), vs = [.ref p, natV t.facts, natV t.start, natV t.goal, .ref la] ∧ G p = none ∧ Ex G H ∧ H p = some (.ins A.task dx []) ∧ ∀ H', Ex G H' → H' p = some (.ins A.task dx (taskF t la)) → Q .non H'
theorem d_Task___init__ (T : Top K mg A) (F : Fun K "__init__" "Task.__init__" s_Task___init__ f fd) (hf : mg "Task" = some (.ref A.task)) (hM : Mk K A.task f)  : DefC P w K mg base "Task" A.task 1 ["self", "facts", "so", "wanted", "acts"] (sp_Task___init__ K A) := by
  refine ⟨f, fd, hf, hM, F.binds (fun _ _ _ _ _ _ us hl => match us, hl with | [_, _, _, _, _], _ => rfl), F.ok sc_Task___init__ (fun vs H Q E h => ?_) (fun cdv A' outer s H vs Q E hr h => ?_)⟩
  · obtain ⟨G, p, dx, la, t, rfl, hG, e0, hp, k⟩ := h
    rfl
  obtain ⟨G, p, dx, la, t, rfl, hG, e0, hp, k⟩ := h
  refine ⟨_, (pss_cons (ps_fld (pv 0) (pv 1) rfl) (pss_cons (ps_fld (pv 0) (pv 2) rfl) (pss_cons (ps_fld (pv 0) (pv 3) rfl) (pss_one (ps_fld (pv 0) (pv 4) rfl))))), ?_⟩
  refine q_fld (G := G) (v := natV t.facts) hp e0 (ev_var rfl) (ev_var rfl) T.cTask T.nFacts (by decide) hG (fun H2 e2 hp2 => ?_)
  refine q_fld (G := G) (v := natV t.start) hp2 e2 (ev_var rfl) (ev_var rfl) T.cTask T.nSo (by show 1 < 1000; decide) hG (fun H3 e3 hp3 => ?_)
  refine q_fld (G := G) (v := natV t.goal) hp3 e3 (ev_var rfl) (ev_var rfl) T.cTask T.nWanted (by show 2 < 1000; decide) hG (fun H4 e4 hp4 => ?_)
  refine s_fld (G := G) (v := .ref la) hp4 e4 (ev_var rfl) (ev_var rfl) T.cTask T.nActs (by show 3 < 1000; decide) hG (fun H5 e5 hp5 => ?_)
  exact k H5 e5 hp5
/-- Task(facts, so, wanted, acts): what stands at acts says which task it is -/
theorem ep_task {σ : L2.St} {H : Hp} {ta : TA} {la : Addr} {t : Pn.Task} {as : List Addr} (h : EvA ta σ H [natV t.facts, natV t.start, natV t.goal, .ref la]) (hla : H la = some (.lst (as.map V.ref))) (hl : as.length = t.acts.length) (ha : ∀ (i : Nat) (x : Pn.Act), t.acts[i]? = some x → ∃ a : Addr, as[i]? = some a ∧ ActAt A H a x) :
    EvP (tMake A.task (sp_Task___init__ K A) [] E0 ta) σ H (fun v H2 => ∃ p, v = .ref p ∧ H p = none ∧ TaskAt A H2 p t) := ep_make h (fun H1 x dx e1 hx e2 Q q => ⟨H1, x, dx, la, t, rfl, hx, e2, upd_same, fun H3 e3 h3 => ⟨rfl, q H3 e3 ⟨x, rfl, fresh_back e1 hx, ⟨dx, la, as, h3, e3 _ _ (e1 _ _ hla), hl, fun i y hy => by
  obtain ⟨a, g1, g2⟩ := ha i y hy
  exact ⟨a, g1, (g2.ex e1).ex e3⟩⟩⟩⟩⟩)
/-- .. with a list made on the way -/
theorem ep_taskL {σ : L2.St} {H : Hp} {t1 t2 t3 te : TE} {t : Pn.Task} {as : List Addr} (h1 : Ev t1 σ H (natV t.facts)) (h2 : Ev t2 σ H (natV t.start)) (h3 : Ev t3 σ H (natV t.goal)) (h4 : EvL te σ H (as.map V.ref)) (hl : as.length = t.acts.length) (ha : ∀ (i : Nat) (x : Pn.Act), t.acts[i]? = some x → ∃ a : Addr, as[i]? = some a ∧ ActAt A H a x) :
    EvP (tMake A.task (sp_Task___init__ K A) [] E0 (tCons t1 (tCons t2 (tCons t3 (tCons te tNil))))) σ H (fun v H2 => ∃ p, v = .ref p ∧ H p = none ∧ TaskAt A H2 p t) := fun H0 e0 Q q =>
  h1 H0 e0 _ fun H1 e1 => h2 H1 (e0.trans e1) _ fun H2 e2 => h3 H2 ((e0.trans e1).trans e2) _ fun H3 e3 => h4 H3 (((e0.trans e1).trans e2).trans e3) _ fun la H4 hla e4 h5 x dx hx hdx hne =>
    ⟨H4, x, dx, la, t, rfl, hx, (Ex.new hdx).trans (Ex.new (by rw [upd_ne (Ne.symm hne)]; exact hx)), upd_same, fun H6 e6 h6 => by
      have e04 := (((e0.trans e1).trans e2).trans e3).trans e4
      exact ⟨rfl, q _ H6 ((((e1.trans e2).trans e3).trans e4).trans e6) ⟨x, rfl, fresh_back e04 hx, ⟨dx, la, as, h6, e6 _ _ h5, hl, fun i y hy => by
        obtain ⟨a, g1, g2⟩ := ha i y hy
        exact ⟨a, g1, (g2.ex e04).ex e6⟩⟩⟩⟩⟩
/-- the house: its task -/
def houseF (pt : Addr) : List (Str × V) := [("task", .ref pt)]
def HouseAt (A : Ad) (H : Hp) (p : Addr) (t : Pn.Task) : Prop := ∃ dx pt : Addr, H p = some (.ins A.house dx (houseF pt)) ∧ TaskAt A H pt t
theorem HouseAt.mono {H H' : Hp} {p : Addr} {t : Pn.Task} (e : Ex H H') (h : HouseAt A H p t) : HouseAt A H' p t := by
  obtain ⟨dx, pt, h1, h2⟩ := h
  exact ⟨dx, pt, e _ _ h1, h2.mono e⟩
theorem TaskAt.less {H : Hp} {p pt dx pt' : Addr} {t : Pn.Task} {C : Addr} (h : TaskAt A H pt t) (hp : H p = some (.ins C dx (houseF pt'))) : TaskAt A (less H p) pt t := by
  obtain ⟨dy, la, as, h1, h2, h3, h4⟩ := h.ex
  refine ⟨dy, la, as, ?_, ?_, h3, fun i x hx => ?_⟩
  · rw [less_ne]
    · exact h1
    · intro z
      rw [z, hp] at h1
      injection h1 with h1
      injection h1 with _ _ h1
      have := congrArg List.length h1
      cases this
  · rw [less_ne]
    · exact h2
    · intro z
      rw [z, hp] at h2
      cases h2
  · obtain ⟨a, g1, dz, g2⟩ := h4 i x hx
    refine ⟨a, g1, dz, ?_⟩
    rw [less_ne]
    · exact g2
    · intro z
      rw [z, hp] at g2
      injection g2 with g2
      injection g2 with _ _ g2
      have := congrArg List.length g2
      cases this
/-- what a method leaves: the house with its task, the answer, all else as it was -/
def MPost (A : Ad) (H : Hp) (p : Addr) (t : Pn.Task) (ans : List Int) (Q : VK) : Prop := ∀ (H' : Hp) (q : Addr), HouseAt A H' p t → H' q = some (.lst (ans.map V.int)) → H q = none → Ex (less H p) H' → Q (.ref q) H'
def answerOf (t : Pn.Task) (x : Pn18.Call) : List Int := Pn18Neutral.out (Pn18.step ⟨t⟩ x).2
def taskOf (t : Pn.Task) (x : Pn18.Call) : Pn.Task := (Pn18.step ⟨t⟩ x).1.task
theorem MPost.same {H H' : Hp} {p q : Addr} {t : Pn.Task} {ans : List Int} {Q : VK} (k : MPost A H p t ans Q) (hh : HouseAt A H p t) (e : Ex H H') (hq : H q = none) (h : H' q = some (.lst (ans.map V.int))) : Q (.ref q) H' := k H' q (hh.mono e) h hq (less_ex.trans e)
theorem less_mono {H H' : Hp} {p : Addr} (e : Ex H H') : Ex (less H p) (less H' p) := fun b o h => by
  by_cases z : b = p
  · subst z
    rw [less_at] at h
    cases h
  · rw [less_ne z] at h ⊢
    exact e _ _ h
/-- behind a change of the house: what is new is new, what was there is there -/
theorem MPost.changed {H H1 H2 H3 : Hp} {p q : Addr} {t' : Pn.Task} {ans : List Int} {Q : VK} (k : MPost A H p t' ans Q) (e1 : Ex H H1) (hh2 : HouseAt A H2 p t') (e2 : Ex (less H1 p) H2) (e3 : Ex H2 H3) (hq : H2 q = none) (h : H3 q = some (.lst (ans.map V.int))) : Q (.ref q) H3 := by
  obtain ⟨dx, pt, hp, _⟩ := id hh2
  have nq : q ≠ p := fun z => by
    rw [z, hp] at hq
    cases hq
  have e12 := (less_mono (p := p) e1).trans e2
  refine k H3 q (hh2.mono e3) h ?_ (e12.trans e3)
  have := fresh_back e12 hq
  rw [less_ne nq] at this
  exact this
/-- self.task = .. -/
theorem q_setTask (T : Top K mg A) {σ : L2.St} {H : Hp} {te ta : TE} {D : Ends} {tz : TS} {p : Addr} {t t' : Pn.Task} (hh : HouseAt A H p t) (h : EvP te σ H (fun v H2 => ∃ q, v = .ref q ∧ H q = none ∧ TaskAt A H2 q t')) (ha : Ev ta σ H (.ref p)) (k : ∀ H1, HouseAt A H1 p t' → Ex (less H p) H1 → tz D σ H1) : tSeq (sFld K ta te "task") tz D σ H := by
  obtain ⟨dx, pt, hp, ht⟩ := hh
  refine h H (Ex.refl H) _ fun v H1 e1 ⟨q, hv, hq, ht1⟩ => ha H1 e1 _ fun H2 e2 => ⟨p, A.house, dx, houseF pt, rfl, e2 _ _ (e1 _ _ hp), T.cHouse, T.nTask, by show 1 < 1000; decide, k _ ?_ (Ex.mut ((less_ex.trans e1).trans e2) less_at)⟩
  subst hv
  have hp2 := e2 _ _ (e1 _ _ hp)
  refine ⟨dx, q, ?_, ?_⟩
  · rw [upd_same]
    rfl
  · have hl := (ht1.mono e2).less hp2
    exact hl.mono (Ex.mut less_ex less_at)
def sp_House___init__ (_ : PySem.W.Frag) (A : Ad) : Sp := fun vs H Q _ => ∃ (G : Hp) (p dx : Addr), vs = [.ref p] ∧ G p = none ∧ Ex G H ∧ H p = some (.ins A.house dx []) ∧ ∀ H', Ex G H' → HouseAt A H' p Pn18.init.task → Q .non H'
theorem d_House___init__ (T : Top K mg A) (F : Fun K "__init__" "House.__init__" s_House___init__ f fd) (hf : mg "House" = some (.ref A.house)) (hM : Mk K A.house f) (D_Task : DefC P w K mg base "Task" A.task 1 ["self", "facts", "so", "wanted", "acts"] (sp_Task___init__ K A)) : DefC P w K mg base "House" A.house 3 ["self"] (sp_House___init__ K A) := by
  obtain ⟨f_Task, fd_Task, g_Task, M_Task, b_Task, G_Task⟩ := D_Task
  refine ⟨f, fd, hf, hM, F.binds (fun _ _ _ _ _ _ us hl => match us, hl with | [_], _ => rfl), F.ok sc_House___init__ (fun vs H Q E h => ?_) (fun cdv A' outer s H vs Q E hr h => ?_)⟩
  · obtain ⟨G, p, dx, rfl, hG, e0, hp, k⟩ := h
    rfl
  obtain ⟨G, p, dx, rfl, hG, e0, hp, k⟩ := h
  refine ⟨_, (pss_one (ps_fld (pv 0) (pe_make M_Task G_Task (hr.mono (by decide)) rfl g_Task b_Task .nil pass0 (pa_cons pe_int (pa_cons pe_int (pa_cons pe_int (pa_cons (pe_lst pa_nil) pa_nil))))) rfl)), ?_⟩
  refine ep_taskL (t := Pn18.init.task) (as := []) ev_c ev_c ev_c (el_lst ea_nil (by decide)) rfl (fun i x hx => by cases hx) H (Ex.refl H) _ fun v H1 e1 ⟨q, hv, hq, ht1⟩ => ⟨_, rfl, p, A.house, dx, [], rfl, e1 _ _ hp, T.cHouse, T.nTask, by decide, ?_⟩
  subst hv
  refine k _ (Ex.mut (e0.trans e1) hG) ⟨dx, q, upd_same, ?_⟩
  obtain ⟨dy, la, as, h1, h2, h3, h4⟩ := ht1.ex
  have nq : q ≠ p := fun z => by
    rw [z, hp] at hq
    cases hq
  refine ⟨dy, la, as, ?_, ?_, h3, fun i x hx => by cases hx⟩
  · rw [upd_ne nq]
    exact h1
  · rw [upd_ne]
    · exact h2
    · intro z
      rw [z, e1 _ _ hp] at h2
      cases h2
def sp_House_begins (_ : PySem.W.Frag) (A : Ad) : Sp := fun vs H Q _ => ∃ (p : Addr) (t : Pn.Task) (n s g : Nat), vs = [.ref p, natV n, natV s, natV g] ∧ HouseAt A H p t ∧ MPost A H p (taskOf t (.begins n s g)) (answerOf t (.begins n s g)) Q
theorem ev_chain2 {σ : L2.St} {H : Hp} {ta tb tc : TE} {r r' : R2} {x y z : V} {a b : Bool} (ha : Ev ta σ H x) (hb : Ev tb σ H y) (hc : Ev tc σ H z) (h1 : RV r x y H (.bl a)) (h2 : RV r' y z H (.bl b)) : Ev (tChain r r' ta tb tc) σ H (.bl (a && b)) := fun H1 e Q q =>
  ha H1 e _ fun H2 e2 => hb H2 (e.trans e2) _ fun H3 e3 => h1 H3 ((e.trans e2).trans e3) _ fun H4 e4 => ⟨a, rfl, by
    cases a with
    | true => exact hc H4 (((e.trans e2).trans e3).trans e4) _ fun H5 e5 => h2 H5 ((((e.trans e2).trans e3).trans e4).trans e5) _ fun H6 e6 => q H6 ((((e2.trans e3).trans e4).trans e5).trans e6)
    | false => exact q H4 ((e2.trans e3).trans e4)⟩
theorem spv_there {H : Hp} {n g : Nat} : SpV (sp_are_there K A) [natV n, natV g] H (.bl (decide (g < 2 ^ n))) := spV_of fun H1 e => ⟨n, g, rfl, rfl⟩
theorem or_lt {a b n : Nat} : a ||| b < 2 ^ n ↔ a < 2 ^ n ∧ b < 2 ^ n := ⟨fun h => ⟨Nat.lt_of_le_of_lt Nat.left_le_or h, Nat.lt_of_le_of_lt Nat.right_le_or h⟩, fun h => Nat.or_lt_two_pow h.1 h.2⟩
theorem d_House_begins (T : Top K mg A) (F : Fun K "begins" "House.begins" s_House_begins f fd) (hM : Meth K A.house "begins" f) (D_Task : DefC P w K mg base "Task" A.task 1 ["self", "facts", "so", "wanted", "acts"] (sp_Task___init__ K A)) (D_are_there : Def P w K mg base "are_there" 1 ["facts", "group"] (sp_are_there K A)) : DefM P w K mg base A.house "begins" 3 ["self", "facts", "so", "wanted"] (sp_House_begins K A) := by
  obtain ⟨f_Task, fd_Task, g_Task, M_Task, b_Task, G_Task⟩ := D_Task
  obtain ⟨f_are_there, fd_are_there, g_are_there, k_are_there, b_are_there, G_are_there⟩ := D_are_there
  refine ⟨f, fd, hM, F.binds (fun _ _ _ _ _ _ us hl => match us, hl with | [_, _, _, _], _ => rfl), F.ok sc_House_begins (fun vs H Q E h => ?_) (fun cdv A' outer s H vs Q E hr h => ?_)⟩
  · obtain ⟨p, t, n, s, g, rfl, hh, k⟩ := h
    rfl
  obtain ⟨p, t, n, s, g, rfl, hh, k⟩ := h
  refine ⟨_, (pss_cons (ps_if (PW.pt (pw_or (pt_not (pt_chain op_le op_le pe_int (pv 1) (pe_cst rfl T.c_MOST_FACTS))) (pw_or1 (pt_not (pt_val (pe_call G_are_there (hr.mono (by decide)) rfl g_are_there k_are_there b_are_there .nil pass0 (pa_cons (pv 1) (pa_cons (pe_op op_or (pv 2) (pv 3)) pa_nil)))))))) (pss_one (ps_ret (pe_lst (pa_cons (pe_un un_neg pe_int) pa_nil)))) pss_nil) (pss_cons (ps_fld (pv 0) (pe_make M_Task G_Task (hr.mono (by decide)) rfl g_Task b_Task .nil pass0 (pa_cons (pv 1) (pa_cons (pv 2) (pa_cons (pv 3) (pa_cons (pe_lst pa_nil) pa_nil))))) rfl) (pss_one (ps_ret (pe_lst (pa_cons pe_int pa_nil)))))), ?_⟩
  refine q_when (b := !(decide ((1 : Int) ≤ (n : Int)) && decide ((n : Int) ≤ 4)) || !decide (s ||| g < 2 ^ n)) (et_or (et_not (et_test (ev_chain2 ev_c (ev_var rfl) ev_c rv_I0 rv_I0))) (fun _ => et_not (et_B (ev_call (ea_cons (ev_var rfl) (ea_cons (ev_bor (a := s) (b := g) (ev_var rfl) (ev_var rfl)) ea_nil)) spv_there)))) (fun hb H1 e1 => ?_) (fun hb H1 e1 => ?_)
  · have hbad : n = 0 ∨ Pn18.FACTS < n ∨ 2 ^ n ≤ s ∨ 2 ^ n ≤ g := by
      unfold Pn18.FACTS
      rw [Bool.or_eq_true, Bool.not_eq_true', Bool.not_eq_true', Bool.and_eq_false_iff, decide_eq_false_iff_not, decide_eq_false_iff_not, decide_eq_false_iff_not, or_lt] at hb
      omega
    have e : Pn18.step ⟨t⟩ (.begins n s g) = (⟨t⟩, Pn18.ok (-1)) := if_pos hbad
    unfold taskOf answerOf at k
    rw [e] at k
    exact s_retL (xs := [.int (-1)]) (el_lst (ea_cons (ev_un ev_c ru_neg) ea_nil) (by show 1 ≤ 100000; decide)) (fun q H2 hq e2 h2 => k.same hh (e1.trans e2) (fresh_back e1 hq) h2)
  · have hok : ¬ (n = 0 ∨ Pn18.FACTS < n ∨ 2 ^ n ≤ s ∨ 2 ^ n ≤ g) := by
      unfold Pn18.FACTS
      rw [Bool.or_eq_false_iff, Bool.not_eq_false', Bool.not_eq_false', Bool.and_eq_true, decide_eq_true_eq, decide_eq_true_eq, decide_eq_true_eq, or_lt] at hb
      omega
    have e : Pn18.step ⟨t⟩ (.begins n s g) = (⟨⟨n, [], s, g⟩⟩, Pn18.ok 0) := if_neg hok
    unfold taskOf answerOf at k
    rw [e] at k
    refine q_setTask T (t' := ⟨n, [], s, g⟩) (hh.mono e1) (ep_taskL (as := []) (ev_var rfl) (ev_var rfl) (ev_var rfl) (el_lst ea_nil (by decide)) rfl (fun i x hx => by cases hx)) (ev_var rfl) (fun H2 hh2 e2 => ?_)
    refine s_retL (xs := [.int 0]) (el_lst (ea_cons ev_c ea_nil) (by show 1 ≤ 100000; decide)) (fun q H3 hq e3 h3 => k.changed e1 hh2 e2 e3 hq h3)
def sp_House_from_state (_ : PySem.W.Frag) (A : Ad) : Sp := fun vs H Q _ => ∃ (p : Addr) (t : Pn.Task) (s g : Nat), vs = [.ref p, natV s, natV g] ∧ HouseAt A H p t ∧ MPost A H p (taskOf t (.from_ s g)) (answerOf t (.from_ s g)) Q
theorem ev_task (T : Top K mg A) {σ : L2.St} {H : Hp} {ta : TE} {p : Addr} {t : Pn.Task} (hh : HouseAt A H p t) : ∃ pt, TaskAt A H pt t ∧ ∀ (ta : TE) (σ : L2.St), Ev ta σ H (.ref p) → Ev (tFld K ta "task") σ H (.ref pt) := by
  obtain ⟨dx, pt, hp, ht⟩ := hh
  exact ⟨pt, ht, fun ta σ h => ev_fld h hp T.cHouse T.nTask lk_here⟩
theorem d_House_from_state (T : Top K mg A) (F : Fun K "from_state" "House.from_state" s_House_from_state f fd) (hM : Meth K A.house "from_state" f) (D_Task : DefC P w K mg base "Task" A.task 1 ["self", "facts", "so", "wanted", "acts"] (sp_Task___init__ K A)) (D_are_there : Def P w K mg base "are_there" 1 ["facts", "group"] (sp_are_there K A)) : DefM P w K mg base A.house "from_state" 3 ["self", "so", "wanted"] (sp_House_from_state K A) := by
  obtain ⟨f_Task, fd_Task, g_Task, M_Task, b_Task, G_Task⟩ := D_Task
  obtain ⟨f_are_there, fd_are_there, g_are_there, k_are_there, b_are_there, G_are_there⟩ := D_are_there
  refine ⟨f, fd, hM, F.binds (fun _ _ _ _ _ _ us hl => match us, hl with | [_, _, _], _ => rfl), F.ok sc_House_from_state (fun vs H Q E h => ?_) (fun cdv A' outer s H vs Q E hr h => ?_)⟩
  · obtain ⟨p, t, s, g, rfl, hh, k⟩ := h
    rfl
  obtain ⟨p, t, s, g, rfl, hh, k⟩ := h
  refine ⟨_, (pss_cons (ps_set (i := 3) sc_House_from_state.nd rfl (by first | exact Or.inl rfl | exact Or.inr rfl) (pe_fldK (K := K) rfl (pv 0) rfl)) (pss_cons (ps_if (pt_not (pt_val (pe_call G_are_there (hr.mono (by decide)) rfl g_are_there k_are_there b_are_there .nil pass0 (pa_cons (pe_fldK (K := K) rfl (pv 3) rfl) (pa_cons (pe_op op_or (pv 1) (pv 2)) pa_nil))))) (pss_one (ps_ret (pe_lst (pa_cons (pe_un un_neg pe_int) pa_nil)))) pss_nil) (pss_cons (ps_fld (pv 0) (pe_make M_Task G_Task (hr.mono (by decide)) rfl g_Task b_Task .nil pass0 (pa_cons (pe_fldK (K := K) rfl (pv 3) rfl) (pa_cons (pv 1) (pa_cons (pv 2) (pa_cons (pe_fldK (K := K) rfl (pv 3) rfl) pa_nil))))) rfl) (pss_one (ps_ret (pe_lst (pa_cons pe_int pa_nil))))))), ?_⟩
  obtain ⟨pt, ht, hev⟩ := ev_task T (ta := tVar 0) (σ := []) hh
  refine q_asg (v := .ref pt) (hev _ _ (ev_var rfl)) (fun H1 e1 => ?_)
  refine q_when (b := !decide (s ||| g < 2 ^ t.facts)) (et_not (et_B (ev_call (ea_cons (ev_facts T (ht.mono e1) (ev_var rfl)) (ea_cons (ev_bor (a := s) (b := g) (ev_var rfl) (ev_var rfl)) ea_nil)) spv_there))) (fun hb H2 e2 => ?_) (fun hb H2 e2 => ?_)
  · have hbad : 2 ^ t.facts ≤ s ∨ 2 ^ t.facts ≤ g := by
      rw [Bool.not_eq_true', decide_eq_false_iff_not, or_lt] at hb
      omega
    have e : Pn18.step ⟨t⟩ (.from_ s g) = (⟨t⟩, Pn18.ok (-1)) := if_pos hbad
    unfold taskOf answerOf at k
    rw [e] at k
    exact s_retL (xs := [.int (-1)]) (el_lst (ea_cons (ev_un ev_c ru_neg) ea_nil) (by show 1 ≤ 100000; decide)) (fun q H3 hq e3 h3 => k.same hh ((e1.trans e2).trans e3) (fresh_back (e1.trans e2) hq) h3)
  · have hok : ¬ (2 ^ t.facts ≤ s ∨ 2 ^ t.facts ≤ g) := by
      rw [Bool.not_eq_false', decide_eq_true_eq, or_lt] at hb
      omega
    have e : Pn18.step ⟨t⟩ (.from_ s g) = (⟨{ t with start := s, goal := g }⟩, Pn18.ok 0) := if_neg hok
    unfold taskOf answerOf at k
    rw [e] at k
    have e12 := e1.trans e2
    obtain ⟨dy, la, as, h1, h2, h3, h4⟩ := (ht.mono e12).ex
    refine q_setTask T (t' := { t with start := s, goal := g }) (hh.mono e12) (ep_task (t := { t with start := s, goal := g }) (as := as) (ea_cons (ev_facts (t := t) T (ht.mono e12) (ev_var rfl)) (ea_cons (ev_var rfl) (ea_cons (ev_var rfl) (ea_cons (ev_fld (ev_var rfl) h1 T.cTask T.nActs (taskF_acts t la)) ea_nil)))) h2 h3 h4) (ev_var rfl) (fun H3 hh3 e3 => ?_)
    exact s_retL (xs := [.int 0]) (el_lst (ea_cons ev_c ea_nil) (by show 1 ≤ 100000; decide)) (fun q H4 hq e4 h4 => k.changed e12 hh3 e3 e4 hq h4)
def sp_is_act_row (_ : PySem.W.Frag) (_ : Ad) : Sp := spV fun vs H z => ∃ (pr : Addr) (r : List Nat) (n : Nat), vs = [.ref pr, natV n] ∧ H pr = some (.lst (r.map natV)) ∧ r.length ≤ 1000 ∧ z = .bl (Pn.act? n r).isSome
theorem act_five {n a b c d e : Nat} : (Pn.act? n [a, b, c, d, e]).isSome = ((decide ((1 : Int) ≤ (e : Int)) && decide ((e : Int) ≤ 1000)) && [a, b, c, d].all fun x => decide (x < 2 ^ n)) := by
  have h1 : decide ((1 : Int) ≤ (e : Int)) = decide (1 ≤ e) := decide_eq_decide.mpr (by omega)
  have h2 : decide ((e : Int) ≤ 1000) = decide (e ≤ 1000) := decide_eq_decide.mpr (by omega)
  rw [h1, h2]
  show (if (Pn.Act.mk a b c d e).right n = true then some (Pn.Act.mk a b c d e) else none).isSome = _
  unfold Pn.Act.right Pn.COST
  by_cases q : (decide (a < 2 ^ n) && (decide (b < 2 ^ n) && (decide (c < 2 ^ n) && (decide (d < 2 ^ n) && (decide (1 ≤ e) && decide (e ≤ 1000)))))) = true
  · rw [if_pos q]
    simp only [Bool.and_eq_true] at q
    obtain ⟨q1, q2, q3, q4, q5, q6⟩ := q
    simp only [List.all_cons, List.all_nil, q1, q2, q3, q4, q5, q6]
    rfl
  · rw [if_neg q]
    symm
    cases z : ((decide (1 ≤ e) && decide (e ≤ 1000)) && [a, b, c, d].all fun x => decide (x < 2 ^ n)) with
    | false => rfl
    | true =>
      exfalso
      apply q
      simp only [List.all_cons, List.all_nil, Bool.and_eq_true] at z ⊢
      obtain ⟨⟨z1, z2⟩, z3, z4, z5, z6, _⟩ := z
      exact ⟨z3, z4, z5, z6, z1, z2⟩
theorem act_other {n : Nat} {r : List Nat} (h : r.length ≠ 5) : (Pn.act? n r).isSome = false := by
  match r, h with
  | [], _ => rfl
  | [_], _ => rfl
  | [_, _], _ => rfl
  | [_, _, _], _ => rfl
  | [_, _, _, _], _ => rfl
  | [_, _, _, _, _], h => exact absurd rfl h
  | _ :: _ :: _ :: _ :: _ :: _ :: _, _ => rfl
theorem five {r : List Nat} (h : r.length = 5) : ∃ a b c d e, r = [a, b, c, d, e] := by
  match r, h with
  | [a, b, c, d, e], _ => exact ⟨a, b, c, d, e, rfl⟩
theorem cut_four (a b c d e : Nat) : cutV ([a, b, c, d, e].map natV) none (some 4) = [a, b, c, d].map natV := rfl
theorem d_is_act_row (T : Top K mg A) (F : Fun K "is_act_row" "is_act_row" s_is_act_row f fd) (hf : mg "is_act_row" = some (.ref f)) (D_are_there : Def P w K mg base "are_there" 1 ["facts", "group"] (sp_are_there K A)) : Def P w K mg base "is_act_row" 2 ["row", "facts"] (sp_is_act_row K A) := by
  obtain ⟨f_are_there, fd_are_there, g_are_there, k_are_there, b_are_there, G_are_there⟩ := D_are_there
  refine ⟨f, fd, hf, F.kp, F.binds (fun _ _ _ _ _ _ us hl => match us, hl with | [_, _], _ => rfl), F.ok sc_is_act_row (fun vs H Q E h => ?_) (fun cdv A' outer s H vs Q E hr h => ?_)⟩
  · obtain ⟨z, ⟨pr, r, n, rfl, hr', hlen, rfl⟩, k⟩ := h
    rfl
  obtain ⟨z, ⟨pr, r, n, rfl, hr', hlen, rfl⟩, k⟩ := h
  refine ⟨_, (pss_cons (ps_if (PW.pt (pw_or (pt_cmpR op_ne (pe_callB (call_lenK (K := K) rfl) (by rfl) T.b_len (by decide +kernel) (pa_cons (pv 0) pa_nil)) pe_int (nomark _)) (pw_or1 (pt_not (pt_chain op_le op_le pe_int (pe_ix (ix_listK (K := K) rfl) (pv 0) pe_int (fun _ _ => rfl)) (pe_cst rfl T.c_MOST_COST)))))) (pss_one (ps_ret pe_bl)) pss_nil) (pss_one (ps_ret (pe_callB (cr_allK (K := K) rfl rfl) (by rfl) T.b_all (by decide +kernel) (pa_cons (pe_lc (own := [("group", 2)]) rfl sc_is_act_row.nd (pi_listK (K := K) rfl (pe_slice (sl_listK (K := K) rfl) (pv 0) po_none (po_some pe_int))) (blkOk_by (N := N_is_act_row) (sc := defScope (top 76)) (by decide +kernel)) (fun _ _ _ _ _ => (pg_name (i := 2) sc_is_act_row.nd rfl (by first | exact Or.inl rfl | exact Or.inr rfl))) (fun _ _ _ _ _ => pts_nil) (fun _ _ _ _ _ => (pe_call G_are_there (hr.mono (by decide)) rfl g_are_there k_are_there b_are_there .nil pass0 (pa_cons (pv 1) (pa_cons (pv 2) pa_nil))))) pa_nil))))), ?_⟩
  by_cases h5 : r.length = 5
  · obtain ⟨a, b, c, d, e, rfl⟩ := five h5
    rw [act_five] at k
    refine q_when (b := !(decide ((1 : Int) ≤ (e : Int)) && decide ((e : Int) ≤ 1000))) (et_is (et_or (a := false) (b := !(decide ((1 : Int) ≤ (e : Int)) && decide ((e : Int) ≤ 1000))) (et_test (ev_neN (a := 5) (b := 5) (ev_lenN (ev_var rfl) hr' rfl) ev_c)) (fun _ => et_not (et_test (ev_chain2 ev_c (ev_ixN (i := 4) (v := natV e) (ev_var rfl) ev_c hr' rfl) ev_c rv_I0 rv_I0)))) rfl) (fun hb H1 e1 => ?_) (fun hb H1 e1 => ?_)
    · have hb : (decide ((1 : Int) ≤ (e : Int)) && decide ((e : Int) ≤ 1000)) = false := by
        cases q : (decide ((1 : Int) ≤ (e : Int)) && decide ((e : Int) ≤ 1000)) with
        | false => rfl
        | true => rw [q] at hb; cases hb
      rw [hb, Bool.false_and] at k
      exact s_ret ev_c (fun H2 e2 => k.go (e1.trans e2))
    · have hb : (decide ((1 : Int) ≤ (e : Int)) && decide ((e : Int) ≤ 1000)) = true := by
        cases q : (decide ((1 : Int) ≤ (e : Int)) && decide ((e : Int) ≤ 1000)) with
        | true => rfl
        | false => rw [q] at hb; cases hb
      rw [hb, Bool.true_and] at k
      refine s_ret (ev_is (ev_all (bs := [a, b, c, d].map fun x => decide (x < 2 ^ n)) (el_mapN (xs := [a, b, c, d].map natV) rfl ?_ (by show 4 ≤ 40000; decide) (fun _ => rfl) (fun i x y H2 e2 hx hy => ?_))) (by rw [List.all_map]; rfl)) (fun H2 e2 => k.go (e1.trans e2))
      · rw [← cut_four a b c d e]
        exact el_sl (ev_var rfl) eo_none (eo_some ev_c) (sq_of (e1 _ _ hr'))
      · rw [List.getElem?_map] at hx hy
        rw [List.getElem?_map] at hy
        cases q : [a, b, c, d][i]? with
        | none => rw [q] at hx; cases hx
        | some u =>
          rw [q] at hx hy
          cases (Option.some.inj hx)
          cases (Option.some.inj hy)
          exact ev_call (ea_cons (ev_var rfl) (ea_cons (ev_var rfl) ea_nil)) spv_there
  · rw [act_other h5] at k
    have hne : (!(r.length == 5)) = true := by
      rw [Bool.not_eq_true']
      exact beq_eq_false_iff_ne.mpr h5
    refine q_when (b := true) (et_is (et_or (b := false) (et_test (ev_neN (a := r.length) (b := 5) (ev_lenN (ev_var rfl) hr' (by rw [List.length_map])) ev_c)) (fun hz => by rw [hne] at hz; cases hz)) (by rw [hne]; rfl)) (fun _ H1 e1 => s_ret ev_c (fun H2 e2 => k.go (e1.trans e2))) (fun hz => by cases hz)
def sp_House_act (_ : PySem.W.Frag) (A : Ad) : Sp := fun vs H Q _ => ∃ (p pr : Addr) (t : Pn.Task) (r : List Nat), vs = [.ref p, .ref pr] ∧ HouseAt A H p t ∧ WF t ∧ H pr = some (.lst (r.map natV)) ∧ r.length ≤ 1000 ∧ MPost A H p (taskOf t (.act r)) (answerOf t (.act r)) Q
theorem d_House_act (T : Top K mg A) (F : Fun K "act" "House.act" s_House_act f fd) (hM : Meth K A.house "act" f) (D_Task : DefC P w K mg base "Task" A.task 1 ["self", "facts", "so", "wanted", "acts"] (sp_Task___init__ K A)) (D_Act : DefC P w K mg base "Act" A.act 1 ["self", "needs", "bars", "brings", "takes", "cost"] (sp_Act___init__ K A)) (D_is_act_row : Def P w K mg base "is_act_row" 2 ["row", "facts"] (sp_is_act_row K A)) : DefM P w K mg base A.house "act" 3 ["self", "row"] (sp_House_act K A) := by
  obtain ⟨f_Task, fd_Task, g_Task, M_Task, b_Task, G_Task⟩ := D_Task
  obtain ⟨f_Act, fd_Act, g_Act, M_Act, b_Act, G_Act⟩ := D_Act
  obtain ⟨f_is_act_row, fd_is_act_row, g_is_act_row, k_is_act_row, b_is_act_row, G_is_act_row⟩ := D_is_act_row
  refine ⟨f, fd, hM, F.binds (fun _ _ _ _ _ _ us hl => match us, hl with | [_, _], _ => rfl), F.ok sc_House_act (fun vs H Q E h => ?_) (fun cdv A' outer s H vs Q E hr h => ?_)⟩
  · obtain ⟨p, pr, t, r, rfl, hh, hw, hr', hlen, k⟩ := h
    rfl
  obtain ⟨p, pr, t, r, rfl, hh, hw, hr', hlen, k⟩ := h
  refine ⟨_, (pss_cons (ps_set (i := 2) sc_House_act.nd rfl (by first | exact Or.inl rfl | exact Or.inr rfl) (pe_fldK (K := K) rfl (pv 0) rfl)) (pss_cons (ps_if (pt_cmpR op_eq (pe_callB (call_lenK (K := K) rfl) (by rfl) T.b_len (by decide +kernel) (pa_cons (pe_fldK (K := K) rfl (pv 2) rfl) pa_nil)) (pe_cst rfl T.c_MOST_ACTS) (nomark _)) (pss_one (ps_ret (pe_lst (pa_cons (pe_un un_neg pe_int) pa_nil)))) pss_nil) (pss_cons (ps_if (pt_not (pt_val (pe_call G_is_act_row (hr.mono (by decide)) rfl g_is_act_row k_is_act_row b_is_act_row .nil pass0 (pa_cons (pv 1) (pa_cons (pe_fldK (K := K) rfl (pv 2) rfl) pa_nil))))) (pss_one (ps_ret (pe_lst (pa_cons (pe_un un_neg pe_int) pa_nil)))) pss_nil) (pss_cons (ps_set (i := 3) sc_House_act.nd rfl (by first | exact Or.inl rfl | exact Or.inr rfl) (pe_make M_Act G_Act (hr.mono (by decide)) rfl g_Act b_Act .nil pass0 (pa_cons (pe_ix (ix_listK (K := K) rfl) (pv 1) pe_int (fun _ _ => rfl)) (pa_cons (pe_ix (ix_listK (K := K) rfl) (pv 1) pe_int (fun _ _ => rfl)) (pa_cons (pe_ix (ix_listK (K := K) rfl) (pv 1) pe_int (fun _ _ => rfl)) (pa_cons (pe_ix (ix_listK (K := K) rfl) (pv 1) pe_int (fun _ _ => rfl)) (pa_cons (pe_ix (ix_listK (K := K) rfl) (pv 1) pe_int (fun _ _ => rfl)) pa_nil))))))) (pss_cons (ps_fld (pv 0) (pe_make M_Task G_Task (hr.mono (by decide)) rfl g_Task b_Task .nil pass0 (pa_cons (pe_fldK (K := K) rfl (pv 2) rfl) (pa_cons (pe_fldK (K := K) rfl (pv 2) rfl) (pa_cons (pe_fldK (K := K) rfl (pv 2) rfl) (pa_cons (pe_op op_cat (pe_fldK (K := K) rfl (pv 2) rfl) (pe_lst (pa_cons (pv 3) pa_nil))) pa_nil))))) rfl) (pss_one (ps_ret (pe_lst (pa_cons (pe_callB (call_lenK (K := K) rfl) (by rfl) T.b_len (by decide +kernel) (pa_cons (pe_fldK (K := K) rfl (pv 2) rfl) pa_nil)) pa_nil))))))))), ?_⟩
  have hn8 := hw.n8
  obtain ⟨pt, ht, hev⟩ := ev_task T (ta := tVar 0) (σ := []) hh
  refine q_asg (v := .ref pt) (hev _ _ (ev_var rfl)) (fun H1 e1 => ?_)
  obtain ⟨dy, la, as, h1, h2, h3, h4⟩ := (ht.mono e1).ex
  have hacts : ∀ (σ : L2.St) (ta : TE) (H2 : Hp), Ex H1 H2 → Ev ta σ H2 (.ref pt) → Ev (tFld K ta "acts") σ H2 (.ref la) := fun σ ta H2 e2 h => ev_fld h (e2 _ _ h1) T.cTask T.nActs (taskF_acts t la)
  have hl : (as.map V.ref).length = t.acts.length := by rw [List.length_map, h3]
  refine q_when (b := t.acts.length == 8) (et_test (ev_eqN (a := t.acts.length) (b := 8) (ev_lenN (hacts _ _ _ (Ex.refl _) (ev_var rfl)) h2 hl) ev_c)) (fun hb H2 e2 => ?_) (fun hb H2 e2 => ?_)
  · have e : Pn18.step ⟨t⟩ (.act r) = (⟨t⟩, Pn18.ok (-7)) := if_pos (beq_iff_eq.mp hb)
    unfold taskOf answerOf at k
    rw [e] at k
    exact s_retL (xs := [.int (-7)]) (el_lst (ea_cons (ev_un ev_c ru_neg) ea_nil) (by show 1 ≤ 100000; decide)) (fun q H3 hq e3 h3 => k.same hh ((e1.trans e2).trans e3) (fresh_back (e1.trans e2) hq) h3)
  have h8 : ¬ t.acts.length = Pn18.ACTS := fun z => by
    unfold Pn18.ACTS at z
    rw [z] at hb
    cases hb
  have e12 := e1.trans e2
  have hstep : Pn18.step ⟨t⟩ (.act r) = match Pn.act? t.facts r with
    | none => (⟨t⟩, Pn18.ok (-1))
    | some a => (⟨{ t with acts := t.acts ++ [a] }⟩, Pn18.ok (t.acts.length : Nat)) := if_neg h8
  refine q_when (b := !(Pn.act? t.facts r).isSome) (et_not (et_B (ev_call (ea_cons (ev_var rfl) (ea_cons (ev_facts T (ht.mono e12) (ev_var rfl)) ea_nil)) (spV_of fun H3 e3 => ⟨pr, r, t.facts, rfl, e3 _ _ (e12 _ _ hr'), hlen, rfl⟩)))) (fun hb H3 e3 => ?_) (fun hb H3 e3 => ?_)
  · have hn : Pn.act? t.facts r = none := by
      cases q : Pn.act? t.facts r with
      | none => rfl
      | some a => rw [q] at hb; cases hb
    unfold taskOf answerOf at k
    rw [hstep, hn] at k
    exact s_retL (xs := [.int (-1)]) (el_lst (ea_cons (ev_un ev_c ru_neg) ea_nil) (by show 1 ≤ 100000; decide)) (fun q H4 hq e4 h4 => k.same hh ((e12.trans e3).trans e4) (fresh_back (e12.trans e3) hq) h4)
  cases hq : Pn.act? t.facts r with
  | none => rw [hq] at hb; cases hb
  | some x =>
    unfold taskOf answerOf at k
    rw [hstep, hq] at k
    have h5 : r.length = 5 := by
      apply Classical.byContradiction
      intro z
      have := act_other (n := t.facts) z
      rw [hq] at this
      cases this
    obtain ⟨a, b, c, d, e, rfl⟩ := five h5
    have hx : x = ⟨a, b, c, d, e⟩ := by
      have hq : (if (Pn.Act.mk a b c d e).right t.facts = true then some (Pn.Act.mk a b c d e) else none) = some x := hq
      by_cases z : (Pn.Act.mk a b c d e).right t.facts = true
      · rw [if_pos z] at hq
        exact (Option.some.inj hq).symm
      · rw [if_neg z] at hq
        cases hq
    subst hx
    have e13 := e12.trans e3
    have hr3 := e13 _ _ hr'
    refine q_asgP (Y := fun v H2 => ∃ pa, v = .ref pa ∧ ActAt A H2 pa ⟨a, b, c, d, e⟩) (ep_make (ea_cons (ev_ixN (i := 0) (ev_var rfl) ev_c hr3 rfl) (ea_cons (ev_ixN (i := 1) (ev_var rfl) ev_c hr3 rfl) (ea_cons (ev_ixN (i := 2) (ev_var rfl) ev_c hr3 rfl) (ea_cons (ev_ixN (i := 3) (ev_var rfl) ev_c hr3 rfl) (ea_cons (ev_ixN (i := 4) (ev_var rfl) ev_c hr3 rfl) ea_nil))))) (fun H4 pa dx e4 hpa e5 Q2 q2 => ⟨H4, pa, dx, ⟨a, b, c, d, e⟩, rfl, hpa, e5, upd_same, fun H5 e6 h6 => ⟨rfl, q2 H5 e6 ⟨pa, rfl, h6⟩⟩⟩)) (fun v H4 e4 ⟨pa, hv, hact⟩ => ?_)
    subst hv
    have e14 := e13.trans e4
    have e24 : Ex H1 H4 := (e2.trans e3).trans e4
    refine q_setTask T (t' := { t with acts := t.acts ++ [⟨a, b, c, d, e⟩] }) (hh.mono e14) (ep_taskL (t := { t with acts := t.acts ++ [⟨a, b, c, d, e⟩] }) (as := as ++ [pa]) (ev_facts (t := t) T (ht.mono e14) (ev_var rfl)) (ev_so (t := t) T (ht.mono e14) (ev_var rfl)) (ev_wanted (t := t) T (ht.mono e14) (ev_var rfl)) ?_ (by rw [List.length_append, List.length_append, h3]; rfl) (fun i y hy => ?_)) (ev_var rfl) (fun H5 hh5 e5 => ?_)
    · rw [List.map_append]
      refine fun H5 e5 Q2 q2 => (hacts _ _ _ e24 (ev_var rfl)) H5 e5 _ fun H6 e6 => (el_lst (vs := [.ref pa]) (ea_cons (ev_var rfl) ea_nil) (by show 1 ≤ 100000; decide)) H6 (e5.trans e6) _ fun q H7 hq e7 h7 => ⟨la, q, as.map V.ref, [.ref pa], rfl, rfl, e7 _ _ (e6 _ _ (e5 _ _ (e24 _ _ h2))), h7, by show _ + 1 ≤ _; rw [hl]; exact sz_of (by omega), fun l hl => q2 l _ (fresh_back (e6.trans e7) hl) ((e6.trans e7).trans (Ex.new hl)) upd_same⟩
    · by_cases z : i < t.acts.length
      · rw [List.getElem?_append_left z] at hy
        obtain ⟨u, g1, g2⟩ := h4 i y hy
        exact ⟨u, by rw [List.getElem?_append_left (by omega)]; exact g1, g2.ex e24⟩
      · rw [List.getElem?_append_right (by omega)] at hy
        have z0 : i - t.acts.length = 0 := by
          have := (List.getElem?_eq_some_iff.mp hy).1
          rw [List.length_singleton] at this
          omega
        rw [z0] at hy
        cases (Option.some.inj hy)
        refine ⟨pa, ?_, hact⟩
        rw [List.getElem?_append_right (by omega), h3, z0]
        rfl
    · have hp5 := (less_mono (p := p) e14).trans e5
      have htl : TaskAt A H5 pt t := by
        obtain ⟨dh, ptt, hph, _⟩ := id (hh.mono e14)
        exact ((ht.mono e14).less hph).mono e5
      obtain ⟨la5, as5, g2, g3, g4, _⟩ := acts_at T htl
      exact s_retL (xs := [natV t.acts.length]) (el_lst (ea_cons (ev_lenN (g4 _ _ (ev_var rfl)) g2 (by rw [List.length_map, g3])) ea_nil) (by show 1 ≤ 100000; decide)) (fun q H6 hq e6 h6 => k.changed e14 hh5 e5 e6 hq h6)
def sp_House_own (_ : PySem.W.Frag) (A : Ad) : Sp := fun vs H Q _ => ∃ (p : Addr) (t : Pn.Task) (n : Nat), vs = [.ref p, natV n] ∧ HouseAt A H p t ∧ WF t ∧ MPost A H p (taskOf t (.own n)) (answerOf t (.own n)) Q
def sp_House_plan (_ : PySem.W.Frag) (A : Ad) : Sp := fun vs H Q _ => ∃ (p pl : Addr) (t : Pn.Task) (c : Nat) (l : List Nat), vs = [.ref p, natV c, .ref pl] ∧ HouseAt A H p t ∧ WF t ∧ H pl = some (.lst (l.map natV)) ∧ l.length ≤ 1000 ∧ MPost A H p (taskOf t (.plan c l)) (answerOf t (.plan c l)) Q
theorem told_fault (o : Pn18.Fault) (h : o ≠ some []) : Pn18Neutral.out (Pn18.told o) = (faultL o).map fun (n : Nat) => (n : Int) := by
  match o, h with
  | none, _ => rfl
  | some [], h => exact absurd rfl h
  | some (n :: l), _ => rfl
theorem plan_ne (t : Pn.Task) (c : Nat) : ∀ (l : List Nat) (i s p : Nat), Pn18.checkPlan t c i s p l ≠ some []
  | [], i, s, p => by
    unfold Pn18.checkPlan
    split
    · intro h; cases h
    · split
      · intro h; cases h
      · intro h; cases h
  | n :: l, i, s, p => by
    unfold Pn18.checkPlan
    split
    · intro h; cases h
    · exact plan_ne t c l _ _ _
theorem nats_int (l : List Nat) : (l.map fun (n : Nat) => (n : Int)).map V.int = l.map natV := by
  rw [List.map_map]
  rfl
theorem d_House_plan (T : Top K mg A) (F : Fun K "plan" "House.plan" s_House_plan f fd) (hM : Meth K A.house "plan" f) (D_plan_check : Def P w K mg base "plan_check" 2 ["task", "claim", "plan"] (sp_plan_check K A)) : DefM P w K mg base A.house "plan" 3 ["self", "claim", "acts"] (sp_House_plan K A) := by
  obtain ⟨f_plan_check, fd_plan_check, g_plan_check, k_plan_check, b_plan_check, G_plan_check⟩ := D_plan_check
  refine ⟨f, fd, hM, F.binds (fun _ _ _ _ _ _ us hl => match us, hl with | [_, _, _], _ => rfl), F.ok sc_House_plan (fun vs H Q E h => ?_) (fun cdv A' outer s H vs Q E hr h => ?_)⟩
  · obtain ⟨p, pl, t, c, l, rfl, hh, hw, hl, hlen, k⟩ := h
    rfl
  obtain ⟨p, pl, t, c, l, rfl, hh, hw, hl, hlen, k⟩ := h
  refine ⟨_, (pss_one (ps_ret (pe_call G_plan_check (hr.mono (by decide)) rfl g_plan_check k_plan_check b_plan_check .nil pass0 (pa_cons (pe_fldK (K := K) rfl (pv 0) rfl) (pa_cons (pv 1) (pa_cons (pv 2) pa_nil)))))), ?_⟩
  obtain ⟨pt, ht, hev⟩ := ev_task T (ta := tVar 0) (σ := []) hh
  have e : answerOf t (.plan c l) = (faultL (Pn18.checkPlan t c 0 t.start 0 l)).map fun (n : Nat) => (n : Int) := told_fault _ (plan_ne t c l 0 t.start 0)
  rw [e] at k
  have hk : MPost A H p t _ Q := k
  exact s_retL (xs := (faultL (Pn18.checkPlan t c 0 t.start 0 l)).map natV) (el_call (ea_cons (hev _ _ (ev_var rfl)) (ea_cons (ev_var rfl) (ea_cons (ev_var rfl) ea_nil))) (spL_of fun H1 e1 => ⟨pt, t, c, pl, l, rfl, ht.mono e1, hw, e1 _ _ hl, hlen, rfl⟩)) (fun q H1 hq e1 h1 => hk.same hh e1 hq (by rw [nats_int]; exact h1))
theorem own_eq {t : Pn.Task} (hw : WF t) {n : Nat} (hn : n ≤ 4) : answerOf t (.own n) = match ownL t n with
    | none => [-6]
    | some l => l.map fun (n : Nat) => (n : Int) := by
  have h0 : Pn18.step ⟨t⟩ (.own n) = (⟨t⟩, match Pn18.own t n with
    | none => Pn18.ok (-6)
    | some p => Pn18.shown p) := if_neg (by omega)
  unfold answerOf
  rw [h0]
  have : n = 0 ∨ n = 1 ∨ n = 2 ∨ n = 3 ∨ n = 4 := by omega
  rcases this with rfl | rfl | rfl | rfl | rfl
  · have e1 : Pn18.own t 0 = (t.first t.start).map fun l => .plan (t.price l) l := rfl
    have e2 : ownL t 0 = ownPlan t := rfl
    rw [e1, e2, first_eq hw]
    unfold ownPlan
    cases q : cst t t.start with
    | none => rfl
    | some c =>
      show Pn18Neutral.out (Pn18.shown (.plan (t.price (plan t t.start)) (plan t t.start))) = _
      rw [plan_price hw c t.start hw.st q]
      rfl
  · have e1 : Pn18.own t 1 = if (Pn.at_ t.costs t.start).isSome = true then some (.table ((Pn18.ownTable t).getD t.start 0) (Pn18.ownTable t)) else none := rfl
    have e2 : ownL t 1 = ownTab t := rfl
    rw [e1, e2, at_costs hw]
    unfold ownTab
    cases q : cst t t.start with
    | none => rfl
    | some c =>
      have hmem : some c ∈ rowOf (2 ^ t.facts) (cst t) := by
        rw [← q]
        exact List.mem_map.mpr ⟨t.start, List.mem_range.mpr hw.st, rfl⟩
      obtain ⟨M, hM1, hM2⟩ := max_ex (l := there (rowOf (2 ^ t.facts) (cst t))) (fun z => by
        have := there_mem.mpr hmem
        rw [z] at this
        cases this)
      have htab := ownTable_eq hw (m := M) (there_mem.mp hM1) (fun x hx => hM2 x (there_mem.mpr hx))
      have hc : (Pn18.ownTable t).getD t.start 0 = c := by
        rw [htab, List.getD_eq_getElem?_getD, List.getElem?_map, rowOf_get hw.st, q]
        rfl
      show Pn18Neutral.out (Pn18.shown (.table ((Pn18.ownTable t).getD t.start 0) (Pn18.ownTable t))) = _
      rw [hc]
      rfl
  · have e1 : Pn18.own t 2 = (Pn03.cutsOf t t.start).map fun l => .cuts (Pn03.worth l) l := rfl
    have e2 : ownL t 2 = ownCuts t := rfl
    rw [e1, e2]
    unfold ownCuts
    cases Pn03.cutsOf t t.start with
    | none => rfl
    | some l => rfl
  · have e1 : Pn18.own t 3 = if (Pn.at_ t.costs t.start).isSome = true then none else some (.set (t.reach t.start)) := rfl
    have e2 : ownL t 3 = ownStates t := rfl
    rw [e1, e2, at_costs hw]
    unfold ownStates
    cases cst t t.start with
    | none => rfl
    | some c => rfl
  · have e1 : Pn18.own t 4 = (Pn02.proof t).map .clauses := rfl
    have e2 : ownL t 4 = ownClauses t := rfl
    rw [e1, e2]
    unfold ownClauses
    cases Pn02.proof t with
    | none => rfl
    | some l => rfl
theorem own_task (t : Pn.Task) (n : Nat) : taskOf t (.own n) = t := by
  unfold taskOf
  by_cases h : 4 < n
  · rw [show Pn18.step ⟨t⟩ (.own n) = (⟨t⟩, Pn18.ok (-1)) from if_pos h]
  · rw [show Pn18.step ⟨t⟩ (.own n) = (⟨t⟩, _) from if_neg h]
theorem d_House_own (T : Top K mg A) (F : Fun K "own" "House.own" s_House_own f fd) (hM : Meth K A.house "own" f) (D_own_proof : Def P w K mg base "own_proof" 7 ["task", "kind"] (sp_own_proof K A)) (D_is_kind : Def P w K mg base "is_kind" 1 ["kind"] (sp_is_kind K A)) : DefM P w K mg base A.house "own" 8 ["self", "kind"] (sp_House_own K A) := by
  obtain ⟨f_own_proof, fd_own_proof, g_own_proof, k_own_proof, b_own_proof, G_own_proof⟩ := D_own_proof
  obtain ⟨f_is_kind, fd_is_kind, g_is_kind, k_is_kind, b_is_kind, G_is_kind⟩ := D_is_kind
  refine ⟨f, fd, hM, F.binds (fun _ _ _ _ _ _ us hl => match us, hl with | [_, _], _ => rfl), F.ok sc_House_own (fun vs H Q E h => ?_) (fun cdv A' outer s H vs Q E hr h => ?_)⟩
  · obtain ⟨p, t, n, rfl, hh, hw, k⟩ := h
    rfl
  obtain ⟨p, t, n, rfl, hh, hw, k⟩ := h
  refine ⟨_, (pss_cons (ps_if (pt_not (pt_val (pe_call G_is_kind (hr.mono (by decide)) rfl g_is_kind k_is_kind b_is_kind .nil pass0 (pa_cons (pv 1) pa_nil)))) (pss_one (ps_ret (pe_lst (pa_cons (pe_un un_neg pe_int) pa_nil)))) pss_nil) (pss_cons (ps_set (i := 2) sc_House_own.nd rfl (by first | exact Or.inl rfl | exact Or.inr rfl) (pe_call G_own_proof (hr.mono (by decide)) rfl g_own_proof k_own_proof b_own_proof .nil pass0 (pa_cons (pe_fldK (K := K) rfl (pv 0) rfl) (pa_cons (pv 1) pa_nil)))) (pss_one (ps_ret (pe_ifExp (pt_cmpR op_isN (pv 2) pe_non (nomark _)) (pe_lst (pa_cons (pe_un un_neg pe_int) pa_nil)) (pv 2)))))), ?_⟩
  obtain ⟨pt, ht, hev⟩ := ev_task T (ta := tVar 0) (σ := []) hh
  rw [own_task] at k
  refine q_when (b := !decide (n ≤ 4)) (et_not (et_B (ev_call (ea_cons (ev_var rfl) ea_nil) (spV_of fun H1 e1 => ⟨n, rfl, rfl⟩)))) (fun hb H1 e1 => ?_) (fun hb H1 e1 => ?_)
  · have hn : 4 < n := by
      rw [Bool.not_eq_true', decide_eq_false_iff_not] at hb
      omega
    have e : answerOf t (.own n) = [-1] := by
      unfold answerOf
      rw [show Pn18.step ⟨t⟩ (.own n) = (⟨t⟩, Pn18.ok (-1)) from if_pos hn]
      rfl
    rw [e] at k
    exact s_retL (xs := [.int (-1)]) (el_lst (ea_cons (ev_un ev_c ru_neg) ea_nil) (by show 1 ≤ 100000; decide)) (fun q H2 hq e2 h2 => k.same hh (e1.trans e2) (fresh_back e1 hq) h2)
  have hn : n ≤ 4 := by
    rw [Bool.not_eq_false', decide_eq_true_eq] at hb
    exact hb
  rw [own_eq hw hn] at k
  refine q_asgP (Y := Told H1 (ownL t n)) (ep_call (ea_cons ((hev _ _ (ev_var rfl)).mono e1) (ea_cons (ev_var rfl) ea_nil)) (fun H2 e2 Q2 q2 E2 => ⟨_, ⟨pt, t, n, rfl, ht.mono (e1.trans e2), hw, rfl⟩, fun v H3 e3 y => q2 v H3 e3 (y.back e2)⟩)) (fun v H2 e2 hY => ?_)
  rcases hY with ⟨h0, hv⟩ | ⟨q, l, h0, hv, hq, h2⟩
  · subst hv
    rw [h0] at k
    have hk : MPost A H p t [-6] Q := k
    refine s_retL (xs := [.int (-6)]) ?_ (fun q H3 hq e3 h3 => hk.same hh ((e1.trans e2).trans e3) (fresh_back (e1.trans e2) hq) h3)
    refine fun H3 e3 Q2 q2 => (et_is (et_test (ev_isN (x := .non) (ev_var rfl))) (b := true) rfl) H3 e3 _ fun H4 e4 => ?_
    exact (el_lst (vs := [.int (-6)]) (ea_cons (ev_un ev_c ru_neg) ea_nil) (by show 1 ≤ 100000; decide)) H4 (e3.trans e4) _ fun r H5 hr5 e5 h5 => q2 r H5 (fresh_back e4 hr5) (e4.trans e5) h5
  · subst hv
    rw [h0] at k
    have hk : MPost A H p t (l.map fun (n : Nat) => (n : Int)) Q := k
    refine s_ret (v := .ref q) (ev_if (b := false) (et_is (et_test (ev_isN (x := .ref q) (ev_var rfl))) rfl) (fun hz => by cases hz) (fun _ => ev_var rfl)) (fun H3 e3 => hk.same hh ((e1.trans e2).trans e3) (fresh_back e1 hq) (by rw [nats_int]; exact e3 _ _ h2))
end
end PC

set_option Elab.async false
set_option linter.all false
set_option maxRecDepth 100000
set_option maxHeartbeats 2000000
namespace PC
open PySem PySem.Spec PyProof.Rows L2 Evl
open Pn02 (Clause)
section
variable {P : Program} {w : World} {K : PySem.W.Frag} {mg : Str → Option Value} {base : Heap} {A : Ad} {f : Addr} {fd : FuncData}
/-! ### a table, checked -/
abbrev s_falls_too_fast : Stmt := top 10
abbrev N_falls_too_fast : List Str := ["act", "state", "numbers"]
theorem sc_falls_too_fast : FnScope N_falls_too_fast ["act", "state", "numbers"] (defScope s_falls_too_fast) := ⟨rfl, rfl, rfl, by decide +kernel, rfl, by decide +kernel, by decide +kernel⟩
abbrev s_table_check : Stmt := top 11
abbrev N_table_check : List Str := ["task", "claim", "numbers", "states", "state", "number", "act"]
theorem sc_table_check : FnScope N_table_check ["task", "claim", "numbers"] (defScope s_table_check) := ⟨rfl, rfl, rfl, by decide +kernel, rfl, by decide +kernel, by decide +kernel⟩
abbrev s_set_check : Stmt := top 14
abbrev N_set_check : List Str := ["task", "states", "state", "number", "act"]
theorem sc_set_check : FnScope N_set_check ["task", "states"] (defScope s_set_check) := ⟨rfl, rfl, rfl, by decide +kernel, rfl, by decide +kernel, by decide +kernel⟩
abbrev s_had_without : Stmt := top 12
abbrev N_had_without : List Str := ["task", "cut_acts", "others", "number", "act", "earlier", "had"]
theorem sc_had_without : FnScope N_had_without ["task", "cut_acts"] (defScope s_had_without) := ⟨rfl, rfl, rfl, by decide +kernel, rfl, by decide +kernel, by decide +kernel⟩
abbrev s_cuts_check : Stmt := top 13
abbrev N_cuts_check : List Str := ["task", "claim", "cuts", "place", "cut", "number", "act", "worth"]
theorem sc_cuts_check : FnScope N_cuts_check ["task", "claim", "cuts"] (defScope s_cuts_check) := ⟨rfl, rfl, rfl, by decide +kernel, rfl, by decide +kernel, by decide +kernel⟩
abbrev s_pair_check : Stmt := top 19
abbrev N_pair_check : List Str := ["task", "plan", "numbers", "cost", "number"]
theorem sc_pair_check : FnScope N_pair_check ["task", "plan", "numbers"] (defScope s_pair_check) := ⟨rfl, rfl, rfl, by decide +kernel, rfl, by decide +kernel, by decide +kernel⟩
abbrev s_are_below : Stmt := top 77
abbrev N_are_below : List Str := ["end", "numbers", "number"]
theorem sc_are_below : FnScope N_are_below ["end", "numbers"] (defScope s_are_below) := ⟨rfl, rfl, rfl, by decide +kernel, rfl, by decide +kernel, by decide +kernel⟩
abbrev s_is_cut : Stmt := top 78
abbrev N_is_cut : List Str := ["cut", "acts"]
theorem sc_is_cut : FnScope N_is_cut ["cut", "acts"] (defScope s_is_cut) := ⟨rfl, rfl, rfl, by decide +kernel, rfl, by decide +kernel, by decide +kernel⟩
theorem nat_get {l : List Nat} {i : Nat} (h : i < l.length) : (l.map natV)[i]? = some (natV (l.getD i 0)) := by
  rw [List.getElem?_map, List.getD_eq_getElem?_getD, List.getElem?_eq_getElem h]
  rfl
theorem ne_pos (n : Nat) : (!(n == 0)) = decide (0 < n) := by
  cases n with
  | zero => rfl
  | succ n => rfl
def sp_falls_too_fast (_ : PySem.W.Frag) (A : Ad) : Sp := spV fun vs H z => ∃ (pa : Addr) (a : Pn.Act) (s : Nat) (ph : Addr) (h : List Nat), vs = [.ref pa, natV s, .ref ph] ∧ ActAt A H pa a ∧ H ph = some (.lst (h.map natV)) ∧ s < h.length ∧ a.then_ s < h.length ∧ z = .bl (a.may s && decide (a.cost + h.getD (a.then_ s) 0 < h.getD s 0))
theorem d_falls_too_fast (T : Top K mg A) (F : Fun K "falls_too_fast" "falls_too_fast" s_falls_too_fast f fd) (hf : mg "falls_too_fast" = some (.ref f)) (D_behind : Def P w K mg base "behind" 1 ["act", "state"] (sp_behind K A)) (D_may_be_done : Def P w K mg base "may_be_done" 1 ["act", "state"] (sp_may_be_done K A)) : Def P w K mg base "falls_too_fast" 2 ["act", "state", "numbers"] (sp_falls_too_fast K A) := by
  obtain ⟨f_behind, fd_behind, g_behind, k_behind, b_behind, G_behind⟩ := D_behind
  obtain ⟨f_may_be_done, fd_may_be_done, g_may_be_done, k_may_be_done, b_may_be_done, G_may_be_done⟩ := D_may_be_done
  refine ⟨f, fd, hf, F.kp, F.binds (fun _ _ _ _ _ _ us hl => match us, hl with | [_, _, _], _ => rfl), F.ok sc_falls_too_fast (fun vs H Q E h => ?_) (fun cdv A' outer s H vs Q E hr h => ?_)⟩
  · obtain ⟨z, ⟨pa, a, s, ph, h, rfl, ha, hh, hs, hb, rfl⟩, k⟩ := h
    rfl
  obtain ⟨z, ⟨pa, a, s, ph, h, rfl, ha, hh, hs, hb, rfl⟩, k⟩ := h
  refine ⟨_, (pss_one (ps_ret (pe_and (pe_call G_may_be_done (hr.mono (by decide)) rfl g_may_be_done k_may_be_done b_may_be_done .nil pass0 (pa_cons (pv 0) (pa_cons (pv 1) pa_nil))) (pe_one (pe_cmpR op_gt (pe_ix (ix_listK (K := K) rfl) (pv 2) (pv 1) (fun _ _ => rfl)) (pe_op op_add (pe_fldK (K := K) rfl (pv 0) rfl) (pe_ix (ix_listK (K := K) rfl) (pv 2) (pe_call G_behind (hr.mono (by decide)) rfl g_behind k_behind b_behind .nil pass0 (pa_cons (pv 0) (pa_cons (pv 1) pa_nil))) (fun _ _ => rfl))) (nomark _)))))), ?_⟩
  refine s_ret (v := .bl (a.may s && decide (a.cost + h.getD (a.then_ s) 0 < h.getD s 0))) ?_ (fun H1 e => k.go e)
  refine ev_andV (ev_call (ea_cons (ev_var rfl) (ea_cons (ev_var rfl) ea_nil)) (spv_may ha)) (fun _ => ?_)
  refine ev_is (ev_op (ev_ixN (i := s) (ev_var rfl) (ev_var rfl) hh (nat_get hs)) (ev_addN (a := a.cost) (ev_cost T ha (ev_var rfl)) (ev_ixN (i := a.then_ s) (ev_var rfl) (ev_call (ea_cons (ev_var rfl) (ea_cons (ev_var rfl) ea_nil)) (spv_behind ha)) hh (nat_get hb))) rv_I0) ?_
  refine congrArg V.bl (decide_eq_decide.mpr ?_)
  omega
def sp_table_check (_ : PySem.W.Frag) (A : Ad) : Sp := spL fun vs H xs => ∃ (pt : Addr) (t : Pn.Task) (c : Nat) (ph : Addr) (h : List Nat), vs = [.ref pt, natV c, .ref ph] ∧ TaskAt A H pt t ∧ WF t ∧ H ph = some (.lst (h.map natV)) ∧ h.length ≤ 1000 ∧ xs = (faultL (Pn18.checkTable t c h)).map natV
theorem d_table_check (T : Top K mg A) (F : Fun K "table_check" "table_check" s_table_check f fd) (hf : mg "table_check" = some (.ref f)) (D_falls_too_fast : Def P w K mg base "falls_too_fast" 2 ["act", "state", "numbers"] (sp_falls_too_fast K A)) (D_as_wanted : Def P w K mg base "as_wanted" 1 ["task", "state"] (sp_as_wanted K A)) (D_states_of : Def P w K mg base "states_of" 1 ["task"] (sp_states_of K A)) : Def P w K mg base "table_check" 3 ["task", "claim", "numbers"] (sp_table_check K A) := by
  obtain ⟨f_falls_too_fast, fd_falls_too_fast, g_falls_too_fast, k_falls_too_fast, b_falls_too_fast, G_falls_too_fast⟩ := D_falls_too_fast
  obtain ⟨f_as_wanted, fd_as_wanted, g_as_wanted, k_as_wanted, b_as_wanted, G_as_wanted⟩ := D_as_wanted
  obtain ⟨f_states_of, fd_states_of, g_states_of, k_states_of, b_states_of, G_states_of⟩ := D_states_of
  refine ⟨f, fd, hf, F.kp, F.binds (fun _ _ _ _ _ _ us hl => match us, hl with | [_, _, _], _ => rfl), F.ok sc_table_check (fun vs H Q E h => ?_) (fun cdv A' outer s H vs Q E hr h => ?_)⟩
  · obtain ⟨z, ⟨pt, t, c, ph, h, rfl, ht, hw, hh, hlen, rfl⟩, k⟩ := h
    rfl
  obtain ⟨z, ⟨pt, t, c, ph, h, rfl, ht, hw, hh, hlen, rfl⟩, k⟩ := h
  refine ⟨_, (pss_cons (ps_set (i := 3) sc_table_check.nd rfl (by first | exact Or.inl rfl | exact Or.inr rfl) (pe_call G_states_of (hr.mono (by decide)) rfl g_states_of k_states_of b_states_of .nil pass0 (pa_cons (pv 0) pa_nil))) (pss_cons (ps_if (pt_cmpR op_ne (pe_callB (call_lenK (K := K) rfl) (by rfl) T.b_len (by decide +kernel) (pa_cons (pv 2) pa_nil)) (pe_callB (call_lenK (K := K) rfl) (by rfl) T.b_len (by decide +kernel) (pa_cons (pv 3) pa_nil)) (nomark _)) (pss_one (ps_ret (pe_lst (pa_cons pe_int pa_nil)))) pss_nil) (pss_cons (ps_for PassesOwn.never rfl (pi_listK (K := K) rfl (pv 3)) (pg_name (i := 4) sc_table_check.nd rfl (by first | exact Or.inl rfl | exact Or.inr rfl)) (pss_one (ps_if (PW.pt (pw_and (pt_val (pe_call G_as_wanted (hr.mono (by decide)) rfl g_as_wanted k_as_wanted b_as_wanted .nil pass0 (pa_cons (pv 0) (pa_cons (pv 4) pa_nil)))) (pw_and1 (pt_cmpR op_ne (pe_ix (ix_listK (K := K) rfl) (pv 2) (pv 4) (fun _ _ => rfl)) pe_int (nomark _))))) (pss_one (ps_ret (pe_lst (pa_cons pe_int (pa_cons (pv 4) pa_nil))))) pss_nil))) (pss_cons (ps_for PassesOwn.never rfl (pi_listK (K := K) rfl (pv 3)) (pg_name (i := 4) sc_table_check.nd rfl (by first | exact Or.inl rfl | exact Or.inr rfl)) (pss_one (ps_for PassesOwn.never rfl (pi_enum (by rfl) T.b_enumerate (pa_cons (pe_fldK (K := K) rfl (pv 0) rfl) pa_nil)) (pg_tupK (K := K) (n := 2) rfl rfl (pgs_cons (pg_name (i := 5) sc_table_check.nd rfl (by first | exact Or.inl rfl | exact Or.inr rfl)) (pgs_cons (pg_name (i := 6) sc_table_check.nd rfl (by first | exact Or.inl rfl | exact Or.inr rfl)) pgs_nil))) (pss_one (ps_if (pt_val (pe_call G_falls_too_fast (hr.mono (by decide)) rfl g_falls_too_fast k_falls_too_fast b_falls_too_fast .nil pass0 (pa_cons (pv 6) (pa_cons (pv 4) (pa_cons (pv 2) pa_nil))))) (pss_one (ps_ret (pe_lst (pa_cons pe_int (pa_cons (pv 4) (pa_cons (pv 5) pa_nil)))))) pss_nil))))) (pss_cons (ps_if (pt_cmpR op_lt (pe_ix (ix_listK (K := K) rfl) (pv 2) (pe_fldK (K := K) rfl (pv 0) rfl) (fun _ _ => rfl)) (pv 1) (nomark _)) (pss_one (ps_ret (pe_lst (pa_cons pe_int (pa_cons (pe_ix (ix_listK (K := K) rfl) (pv 2) (pe_fldK (K := K) rfl (pv 0) rfl) (fun _ _ => rfl)) pa_nil))))) pss_nil) (pss_one (ps_ret (pe_lst (pa_cons pe_int pa_nil))))))))), ?_⟩
  have hp16 := hw.lt16
  rw [checkTable_eq] at k
  have hl : ((List.range (2 ^ t.facts)).map natV).length = 2 ^ t.facts := by rw [List.length_map, List.length_range]
  refine q_asgL (xs := (List.range (2 ^ t.facts)).map natV) (el_call (ea_cons (ev_var rfl) ea_nil) (spl_states ht hw.f4)) (fun ps H1 hps e1 hs1 => ?_)
  refine q_when (b := !(h.length == 2 ^ t.facts)) (et_test (ev_neN (a := h.length) (b := 2 ^ t.facts) (ev_lenN (ev_var rfl) (e1 _ _ hh) (by rw [List.length_map])) (ev_lenN (ev_var rfl) hs1 hl))) (fun hb H2 e2 => ?_) (fun hb H2 e2 => ?_)
  · have hne : h.length ≠ 2 ^ t.facts := by
      intro z
      rw [z, beq_self_eq_true] at hb
      cases hb
    rw [if_pos hne] at k
    exact s_retL (xs := [natV 1]) (el_lst (ea_cons ev_c ea_nil) (by show 1 ≤ 100000; decide)) (fun q H3 hq e3 h3 => k q H3 (fresh_back (e1.trans e2) hq) ((e1.trans e2).trans e3) h3)
  have heq : h.length = 2 ^ t.facts := by
    rw [Bool.not_eq_false'] at hb
    exact beq_iff_eq.mp hb
  rw [if_neg (fun z => z heq)] at k
  have e12 := e1.trans e2
  have hs2 := e2 _ _ hs1
  refine q_forLn (xs := (List.range (2 ^ t.facts)).map natV) (ev_var rfl) (sq_of hs2) (fun i σ' H' => ∃ o : Option V, σ' = [some (.ref pt), some (natV c), some (.ref ph), some (.ref ps), o, none, none] ∧ Ex H2 H' ∧ ∀ j, j < i → tabA t h j = false)
    (fun H3 e3 => ⟨none, rfl, e3, fun j hj => by omega⟩) (fun i σ' H' _ ⟨_, _, e, _⟩ => sq_of (e _ _ hs2)) (fun i x σ' H' hi ⟨o, hσ, e3, hno⟩ => ?_) (fun σ' H' ⟨o, hσ, e3, hno⟩ => ?_)
  · subst hσ
    obtain ⟨s, hs, rfl⟩ := nat_at hi
    obtain ⟨rfl, hi'⟩ := range_get hs
    have e03 := e12.trans e3
    refine s_when (b := tabA t h s) (et_is (et_and (et_B (ev_call (ea_cons (ev_var rfl) (ea_cons (ev_var rfl) ea_nil)) (spv_wanted (ht.mono e03)))) (fun _ => et_test (ev_neN (a := h.getD s 0) (b := 0) (ev_ixN (i := s) (ev_var rfl) (ev_var rfl) (e03 _ _ hh) (nat_get (by omega))) ev_c))) (by rw [ne_pos]; rfl)) (fun hb H4 e4 => ?_) (fun hb H4 e4 => ?_)
    · have hf : (List.range (2 ^ t.facts)).find? (tabA t h) = some s := fdr_hit hi' hb hno
      rw [hf] at k
      exact s_retL (xs := [natV 2, natV s]) (el_lst (ea_cons ev_c (ea_cons (ev_var rfl) ea_nil)) (by show 2 ≤ 100000; decide)) (fun q H5 hq e5 h5 => k q H5 (fresh_back (e03.trans e4) hq) ((e03.trans e4).trans e5) h5)
    · refine ⟨some (natV s), rfl, e3.trans e4, fun j hj => ?_⟩
      by_cases q : j < s
      · exact hno j q
      · have q : j = s := by omega
        rw [q]
        exact hb
  subst hσ
  have hf : (List.range (2 ^ t.facts)).find? (tabA t h) = none := fdr_none fun j hj => hno j (by rw [hl]; exact hj)
  rw [hf] at k
  have e03 := e12.trans e3
  have hs3 := e3 _ _ hs2
  obtain ⟨la, as, h2, h3, h4, h5⟩ := acts_at T (ht.mono e03)
  refine q_forLn (xs := (List.range (2 ^ t.facts)).map natV) (ev_var rfl) (sq_of hs3) (fun i σ' H2 => ∃ o1 o2 o3 : Option V, σ' = [some (.ref pt), some (natV c), some (.ref ph), some (.ref ps), o1, o2, o3] ∧ Ex H' H2 ∧ ∀ j, j < i → tabB t h j = none)
    (fun H3 e3 => ⟨o, none, none, rfl, e3, fun j hj => by omega⟩) (fun i σ' H' _ ⟨_, _, _, _, e, _⟩ => sq_of (e _ _ hs3)) (fun i x σ' H4 hi ⟨o1, o2, o3, hσ, e4, hnb⟩ => ?_) (fun σ' H4 ⟨o1, o2, o3, hσ, e4, hnb⟩ => ?_)
  · subst hσ
    obtain ⟨s, hs, rfl⟩ := nat_at hi
    obtain ⟨rfl, hi'⟩ := range_get hs
    refine s_forE (xs := as.map V.ref) ((h4 _ _ (ev_var rfl)).mono e4) (e4 _ _ h2) (fun j σ' H5 => ∃ o2 o3 : Option V, σ' = [some (.ref pt), some (natV c), some (.ref ph), some (.ref ps), some (natV s), o2, o3] ∧ Ex H' H5 ∧ ∀ n, n < j → tabK t h s n = false)
      (fun H5 e5 => ⟨o2, o3, rfl, e4.trans e5, fun n hn => by omega⟩) (fun j σ' H5 _ ⟨_, _, _, e, _⟩ => sq_of (e _ _ h2)) (fun j x σ' H5 H6 hj ⟨o2, o3, hσ, e5, hnk⟩ e6 => ?_) (fun σ' H5 ⟨o2, o3, hσ, e5, hnk⟩ => ?_)
    · subst hσ
      obtain ⟨a, act, rfl, ha, hact⟩ := h5 j x hj
      obtain ⟨hj', rfl⟩ := act_some ha
      have e56 := e5.trans e6
      have htl : (t.act j).then_ s < h.length := by
        rw [heq]
        exact then_lt (hw.at (act_mem hj')) hi'
      have hbk : tabK t h s j = ((t.act j).may s && decide ((t.act j).cost + h.getD ((t.act j).then_ s) 0 < h.getD s 0)) := by
        unfold tabK
        rw [can_eq hj']
      refine s_when (b := tabK t h s j) (et_is (et_B (ev_call (ea_cons (ev_var rfl) (ea_cons (ev_var rfl) (ea_cons (ev_var rfl) ea_nil))) (spV_of fun H7 e7 => ⟨a, t.act j, s, ph, h, rfl, (hact.ex e56).ex e7, e7 _ _ (e56 _ _ (e03 _ _ hh)), by omega, htl, rfl⟩))) hbk.symm) (fun hb H7 e7 => ?_) (fun hb H7 e7 => ?_)
      · have hf : (List.range (2 ^ t.facts)).findSome? (tabB t h) = some [3, s, j] := by
          refine fsr_hit hi' ?_ hnb
          unfold tabB
          rw [fdr_hit hj' hb hnk]
          rfl
        rw [hf] at k
        exact s_retL (xs := [natV 3, natV s, natV j]) (el_lst (ea_cons ev_c (ea_cons (ev_var rfl) (ea_cons (ev_var rfl) ea_nil))) (by show 3 ≤ 100000; decide)) (fun q H8 hq e8 h8 => k q H8 (fresh_back ((e03.trans e56).trans e7) hq) (((e03.trans e56).trans e7).trans e8) h8)
      · refine ⟨some (natV j), some (.ref a), rfl, e56.trans e7, fun n hn => ?_⟩
        by_cases q : n < j
        · exact hnk n q
        · have q : n = j := by omega
          rw [q]
          exact hb
    · subst hσ
      refine ⟨some (natV s), o2, o3, rfl, e5, fun j hj => ?_⟩
      by_cases q : j < s
      · exact hnb j q
      · have q : j = s := by omega
        rw [q]
        unfold tabB
        rw [fdr_none fun n hn => hnk n (by rw [List.length_map, h3]; exact hn)]
        rfl
  subst hσ
  have hf : (List.range (2 ^ t.facts)).findSome? (tabB t h) = none := fsr_none fun j hj => hnb j (by rw [hl]; exact hj)
  rw [hf] at k
  have k : RetL ((faultL (if h.getD t.start 0 < c then some [4, h.getD t.start 0] else none)).map natV) H Q := k
  have e04 := e03.trans e4
  have hst : t.start < h.length := by
    rw [heq]
    exact hw.st
  refine q_when (b := decide (h.getD t.start 0 < c)) (et_is (et_test (ev_op (ev_ixN (i := t.start) (ev_var rfl) (ev_so T (ht.mono e04) (ev_var rfl)) (e04 _ _ hh) (nat_get hst)) (ev_var rfl) rv_I0)) (decide_eq_decide.mpr (by omega))) (fun hb H5 e5 => ?_) (fun hb H5 e5 => ?_)
  · have hb := of_decide_eq_true hb
    rw [if_pos hb] at k
    exact s_retL (xs := [natV 4, natV (h.getD t.start 0)]) (el_lst (ea_cons ev_c (ea_cons (ev_ixN (i := t.start) (ev_var rfl) (ev_so T (ht.mono (e04.trans e5)) (ev_var rfl)) (e5 _ _ (e04 _ _ hh)) (nat_get hst)) ea_nil)) (by show 2 ≤ 100000; decide)) (fun q H8 hq e8 h8 => k q H8 (fresh_back (e04.trans e5) hq) ((e04.trans e5).trans e8) h8)
  · have hb := of_decide_eq_false hb
    rw [if_neg hb] at k
    exact s_retL (xs := [natV 0]) (el_lst (ea_cons ev_c ea_nil) (by show 1 ≤ 100000; decide)) (fun q H8 hq e8 h8 => k q H8 (fresh_back (e04.trans e5) hq) ((e04.trans e5).trans e8) h8)
/-! ### a set of states, checked -/
def sp_set_check (_ : PySem.W.Frag) (A : Ad) : Sp := spL fun vs H xs => ∃ (pt : Addr) (t : Pn.Task) (pl : Addr) (l : List Nat), vs = [.ref pt, .ref pl] ∧ TaskAt A H pt t ∧ WF t ∧ H pl = some (.lst (l.map natV)) ∧ l.length ≤ 1000 ∧ xs = (faultL (Pn18.checkSet t l)).map natV
theorem d_set_check (T : Top K mg A) (F : Fun K "set_check" "set_check" s_set_check f fd) (hf : mg "set_check" = some (.ref f)) (D_as_wanted : Def P w K mg base "as_wanted" 1 ["task", "state"] (sp_as_wanted K A)) (D_behind : Def P w K mg base "behind" 1 ["act", "state"] (sp_behind K A)) (D_may_be_done : Def P w K mg base "may_be_done" 1 ["act", "state"] (sp_may_be_done K A)) : Def P w K mg base "set_check" 2 ["task", "states"] (sp_set_check K A) := by
  obtain ⟨f_as_wanted, fd_as_wanted, g_as_wanted, k_as_wanted, b_as_wanted, G_as_wanted⟩ := D_as_wanted
  obtain ⟨f_behind, fd_behind, g_behind, k_behind, b_behind, G_behind⟩ := D_behind
  obtain ⟨f_may_be_done, fd_may_be_done, g_may_be_done, k_may_be_done, b_may_be_done, G_may_be_done⟩ := D_may_be_done
  refine ⟨f, fd, hf, F.kp, F.binds (fun _ _ _ _ _ _ us hl => match us, hl with | [_, _], _ => rfl), F.ok sc_set_check (fun vs H Q E h => ?_) (fun cdv A' outer s H vs Q E hr h => ?_)⟩
  · obtain ⟨z, ⟨pt, t, pl, l, rfl, ht, hw, hl, hlen, rfl⟩, k⟩ := h
    rfl
  obtain ⟨z, ⟨pt, t, pl, l, rfl, ht, hw, hl, hlen, rfl⟩, k⟩ := h
  refine ⟨_, (pss_cons (ps_if (pt_cmpR (op_notInK (K := K) rfl) (pe_fldK (K := K) rfl (pv 0) rfl) (pv 1) (by rfl)) (pss_one (ps_ret (pe_lst (pa_cons pe_int pa_nil)))) pss_nil) (pss_cons (ps_for PassesOwn.never rfl (pi_listK (K := K) rfl (pv 1)) (pg_name (i := 2) sc_set_check.nd rfl (by first | exact Or.inl rfl | exact Or.inr rfl)) (pss_one (ps_for PassesOwn.never rfl (pi_enum (by rfl) T.b_enumerate (pa_cons (pe_fldK (K := K) rfl (pv 0) rfl) pa_nil)) (pg_tupK (K := K) (n := 2) rfl rfl (pgs_cons (pg_name (i := 3) sc_set_check.nd rfl (by first | exact Or.inl rfl | exact Or.inr rfl)) (pgs_cons (pg_name (i := 4) sc_set_check.nd rfl (by first | exact Or.inl rfl | exact Or.inr rfl)) pgs_nil))) (pss_one (ps_if (PW.pt (pw_and (pt_val (pe_call G_may_be_done (hr.mono (by decide)) rfl g_may_be_done k_may_be_done b_may_be_done .nil pass0 (pa_cons (pv 4) (pa_cons (pv 2) pa_nil)))) (pw_and1 (pt_cmpR (op_notInK (K := K) rfl) (pe_call G_behind (hr.mono (by decide)) rfl g_behind k_behind b_behind .nil pass0 (pa_cons (pv 4) (pa_cons (pv 2) pa_nil))) (pv 1) (by rfl))))) (pss_one (ps_ret (pe_lst (pa_cons pe_int (pa_cons (pv 2) (pa_cons (pv 3) pa_nil)))))) pss_nil))))) (pss_cons (ps_for PassesOwn.never rfl (pi_listK (K := K) rfl (pv 1)) (pg_name (i := 2) sc_set_check.nd rfl (by first | exact Or.inl rfl | exact Or.inr rfl)) (pss_one (ps_if (pt_val (pe_call G_as_wanted (hr.mono (by decide)) rfl g_as_wanted k_as_wanted b_as_wanted .nil pass0 (pa_cons (pv 0) (pa_cons (pv 2) pa_nil)))) (pss_one (ps_ret (pe_lst (pa_cons pe_int (pa_cons (pv 2) pa_nil))))) pss_nil))) (pss_one (ps_ret (pe_lst (pa_cons pe_int pa_nil))))))), ?_⟩
  rw [checkSet_eq] at k
  refine q_when (b := !l.contains t.start) (et_is (et_test (ev_op (x := natV t.start) (ev_so T ht (ev_var rfl)) (ev_var rfl) (rv_niL (sq_of hl) rfl (flat_nats l)))) (by rw [inV_nat])) (fun hb H1 e1 => ?_) (fun hb H1 e1 => ?_)
  · have hc : l.contains t.start = false := by simpa using hb
    rw [if_pos hc] at k
    exact s_retL (xs := [natV 1]) (el_lst (ea_cons ev_c ea_nil) (by show 1 ≤ 100000; decide)) (fun q H3 hq e3 h3 => k q H3 (fresh_back e1 hq) (e1.trans e3) h3)
  have hc : l.contains t.start = true := by simpa using hb
  rw [if_neg (by rw [hc]; decide)] at k
  obtain ⟨la, as, h2, h3, h4, h5⟩ := acts_at T (ht.mono e1)
  have hl1 := e1 _ _ hl
  refine q_forLn (xs := l.map natV) (ev_var rfl) (sq_of hl1) (fun i σ' H2 => ∃ o1 o2 o3 : Option V, σ' = [some (.ref pt), some (.ref pl), o1, o2, o3] ∧ Ex H1 H2 ∧ ∀ (j s : Nat), j < i → l[j]? = some s → setB t l s = none)
    (fun H3 e3 => ⟨none, none, none, rfl, e3, fun j s hj => by omega⟩) (fun i σ' H' _ ⟨_, _, _, _, e, _⟩ => sq_of (e _ _ hl1)) (fun i x σ' H4 hi ⟨o1, o2, o3, hσ, e4, hnb⟩ => ?_) (fun σ' H4 ⟨o1, o2, o3, hσ, e4, hnb⟩ => ?_)
  · subst hσ
    obtain ⟨s, hs, rfl⟩ := nat_at hi
    refine s_forE (xs := as.map V.ref) ((h4 _ _ (ev_var rfl)).mono e4) (e4 _ _ h2) (fun j σ' H5 => ∃ o2 o3 : Option V, σ' = [some (.ref pt), some (.ref pl), some (natV s), o2, o3] ∧ Ex H1 H5 ∧ ∀ n, n < j → setK t l s n = false)
      (fun H5 e5 => ⟨o2, o3, rfl, e4.trans e5, fun n hn => by omega⟩) (fun j σ' H5 _ ⟨_, _, _, e, _⟩ => sq_of (e _ _ h2)) (fun j x σ' H5 H6 hj ⟨o2, o3, hσ, e5, hnk⟩ e6 => ?_) (fun σ' H5 ⟨o2, o3, hσ, e5, hnk⟩ => ?_)
    · subst hσ
      obtain ⟨a, act, rfl, ha, hact⟩ := h5 j x hj
      obtain ⟨hj', rfl⟩ := act_some ha
      have e56 := e5.trans e6
      have hbk : setK t l s j = ((t.act j).may s && !l.contains ((t.act j).then_ s)) := by
        unfold setK
        rw [can_eq hj']
      refine s_when (b := setK t l s j) (et_is (et_and (et_B (ev_call (ea_cons (ev_var rfl) (ea_cons (ev_var rfl) ea_nil)) (spv_may (hact.ex e56)))) (fun _ => et_is (et_test (ev_op (ev_call (ea_cons (ev_var rfl) (ea_cons (ev_var rfl) ea_nil)) (spv_behind (hact.ex e56))) (ev_var rfl) (rv_niL (sq_of (e56 _ _ hl1)) rfl (flat_nats l)))) (by rw [inV_nat]))) hbk.symm) (fun hb H7 e7 => ?_) (fun hb H7 e7 => ?_)
      · have hf : l.findSome? (setB t l) = some [2, s, j] := by
          refine fs_hit hs ?_ hnb
          unfold setB
          rw [fdr_hit hj' hb hnk]
          rfl
        rw [hf] at k
        exact s_retL (xs := [natV 2, natV s, natV j]) (el_lst (ea_cons ev_c (ea_cons (ev_var rfl) (ea_cons (ev_var rfl) ea_nil))) (by show 3 ≤ 100000; decide)) (fun q H8 hq e8 h8 => k q H8 (fresh_back ((e1.trans e56).trans e7) hq) (((e1.trans e56).trans e7).trans e8) h8)
      · refine ⟨some (natV j), some (.ref a), rfl, e56.trans e7, fun n hn => ?_⟩
        by_cases q : n < j
        · exact hnk n q
        · have q : n = j := by omega
          rw [q]
          exact hb
    · subst hσ
      refine ⟨some (natV s), o2, o3, rfl, e5, fun j s' hj hs' => ?_⟩
      by_cases q : j < i
      · exact hnb j s' q hs'
      · have q : j = i := by omega
        subst q
        rw [hs] at hs'
        cases (Option.some.inj hs')
        unfold setB
        rw [fdr_none fun n hn => hnk n (by rw [List.length_map, h3]; exact hn)]
        rfl
  subst hσ
  have hf : l.findSome? (setB t l) = none := fs_none fun j s hs => hnb j s (by rw [List.length_map]; exact (List.getElem?_eq_some_iff.mp hs).1) hs
  rw [hf] at k
  have e04 := e1.trans e4
  have hl4 := e4 _ _ hl1
  refine q_forLn (xs := l.map natV) (ev_var rfl) (sq_of hl4) (fun i σ' H2 => ∃ o1 : Option V, σ' = [some (.ref pt), some (.ref pl), o1, o2, o3] ∧ Ex H4 H2 ∧ ∀ (j s : Nat), j < i → l[j]? = some s → t.done s = false)
    (fun H3 e3 => ⟨o1, rfl, e3, fun j s hj => by omega⟩) (fun i σ' H' _ ⟨_, _, e, _⟩ => sq_of (e _ _ hl4)) (fun i x σ' H5 hi ⟨o1, hσ, e5, hnd⟩ => ?_) (fun σ' H5 ⟨o1, hσ, e5, hnd⟩ => ?_)
  · subst hσ
    obtain ⟨s, hs, rfl⟩ := nat_at hi
    refine s_when (b := t.done s) (et_B (ev_call (ea_cons (ev_var rfl) (ea_cons (ev_var rfl) ea_nil)) (spv_wanted (ht.mono (e04.trans e5))))) (fun hb H6 e6 => ?_) (fun hb H6 e6 => ?_)
    · have hd : l.find? t.done = some s := fd_hit hs hb fun j x h1 h2 => hnd j x h1 h2
      rw [hd] at k
      exact s_retL (xs := [natV 3, natV s]) (el_lst (ea_cons ev_c (ea_cons (ev_var rfl) ea_nil)) (by show 2 ≤ 100000; decide)) (fun q H7 hq e7 h7 => k q H7 (fresh_back ((e04.trans e5).trans e6) hq) (((e04.trans e5).trans e6).trans e7) h7)
    · refine ⟨some (natV s), rfl, e5.trans e6, fun j x h1 h2 => ?_⟩
      by_cases q : j < i
      · exact hnd j x q h2
      · have q : j = i := by omega
        subst q
        rw [hs] at h2
        cases (Option.some.inj h2)
        exact hb
  · subst hσ
    have hd : l.find? t.done = none := fd_none fun j x h2 => hnd j x (by rw [List.length_map]; exact (List.getElem?_eq_some_iff.mp h2).1) h2
    rw [hd] at k
    exact s_retL (xs := [natV 0]) (el_lst (ea_cons ev_c ea_nil) (by show 1 ≤ 100000; decide)) (fun q H7 hq e7 h7 => k q H7 (fresh_back (e04.trans e5) hq) ((e04.trans e5).trans e7) h7)
end
end PC

set_option Elab.async false
set_option linter.all false
set_option maxRecDepth 100000
set_option maxHeartbeats 2000000
namespace PC
open PySem PySem.Spec PyProof.Rows L2 Evl
open Pn02 (Clause)
section
variable {σ : L2.St} {H : Hp} {ta tb : TE} {x z : V}
/-- f(a, xs), the list made on the way -/
theorem ev_call2L {sp : Sp} {E : XK} {xs : List V} (ha : Ev ta σ H x) (hb : EvL tb σ H xs) (hs : ∀ p H1, Ex H H1 → H1 p = some (.lst xs) → SpV sp [x, .ref p] H1 z) : Ev (tCall sp [] E (tCons ta (tCons tb tNil))) σ H z := fun H1 e Q q =>
  ha H1 e _ fun H2 e2 => hb H2 (e.trans e2) _ fun p H3 _ e3 h3 => hs p H3 ((e.trans e2).trans e3) h3 H3 (Ex.refl H3) Q (fun H4 e4 => q H4 ((e2.trans e3).trans e4)) E
end
section
variable {P : Program} {w : World} {K : PySem.W.Frag} {mg : Str → Option Value} {base : Heap} {A : Ad} {f : Addr} {fd : FuncData}
/-! ### what can be had without some acts -/
def sp_had_without (_ : PySem.W.Frag) (A : Ad) : Sp := spV fun vs H z => ∃ (pt : Addr) (t : Pn.Task) (pl : Addr) (l : List Nat), vs = [.ref pt, .ref pl] ∧ TaskAt A H pt t ∧ WF t ∧ H pl = some (.lst (l.map natV)) ∧ z = natV (hadAll t l)
theorem others_at {t : Pn.Task} {l : List Nat} {as : List Addr} {H : Hp} (h3 : as.length = t.acts.length) (h5 : ∀ (i : Nat) (x : V), (as.map V.ref)[i]? = some x → ∃ (a : Addr) (act : Pn.Act), x = .ref a ∧ t.acts[i]? = some act ∧ ActAt A H a act) {i : Nat} {x : V}
    (h : (given (as.map V.ref).length (fun k => !l.contains k) (fun k => (as.map V.ref).getD k .non))[i]? = some x) : ∃ a act, x = .ref a ∧ (othersL t l)[i]? = some act ∧ ActAt A H a act := by
  rw [List.length_map, h3] at h
  unfold given at h
  unfold othersL
  rw [List.getElem?_map] at h ⊢
  cases q : ((List.range t.acts.length).filter fun k => !l.contains k)[i]? with
  | none => rw [q] at h; cases h
  | some k =>
    rw [q] at h
    have hk : k < t.acts.length := List.mem_range.mp (List.mem_filter.mp (List.mem_of_getElem? q)).1
    have hkl : k < (as.map V.ref).length := by
      rw [List.length_map]
      omega
    have hg : (as.map V.ref)[k]? = some (as.map V.ref)[k] := List.getElem?_eq_getElem hkl
    obtain ⟨a, act, g1, g2, g3⟩ := h5 k _ hg
    have hx : (as.map V.ref).getD k .non = x := Option.some.inj h
    rw [getD_at hg, g1] at hx
    obtain ⟨_, e⟩ := act_some g2
    exact ⟨a, t.act k, hx.symm, rfl, by rw [e]; exact g3⟩
theorem others_len (t : Pn.Task) (l : List Nat) {as : List Addr} (h3 : as.length = t.acts.length) : (given (as.map V.ref).length (fun k => !l.contains k) (fun k => (as.map V.ref).getD k .non)).length = (othersL t l).length := by
  unfold given othersL
  rw [List.length_map, List.length_map, List.length_map, h3]
theorem d_had_without (T : Top K mg A) (F : Fun K "had_without" "had_without" s_had_without f fd) (hf : mg "had_without" = some (.ref f))  : Def P w K mg base "had_without" 1 ["task", "cut_acts"] (sp_had_without K A) := by
  refine ⟨f, fd, hf, F.kp, F.binds (fun _ _ _ _ _ _ us hl => match us, hl with | [_, _], _ => rfl), F.ok sc_had_without (fun vs H Q E h => ?_) (fun cdv A' outer s H vs Q E hr h => ?_)⟩
  · obtain ⟨z, ⟨pt, t, pl, l, rfl, ht, hw, hl, rfl⟩, k⟩ := h
    rfl
  obtain ⟨z, ⟨pt, t, pl, l, rfl, ht, hw, hl, rfl⟩, k⟩ := h
  refine ⟨_, (pss_cons (ps_setLc (i := 2) (own := [("number", 3), ("act", 4)]) rfl sc_had_without.nd rfl rfl (sw_true rfl rfl rfl (by decide +kernel)) (pi_enum (by rfl) T.b_enumerate (pa_cons (pe_fldK (K := K) rfl (pv 0) rfl) pa_nil)) (blkOk_by (N := N_had_without) (sc := defScope (top 12)) (by decide +kernel)) (fun _ _ _ _ _ => (pg_tupK (K := K) (n := 2) rfl rfl (pgs_cons (pg_name (i := 3) sc_had_without.nd rfl (by first | exact Or.inl rfl | exact Or.inr rfl)) (pgs_cons (pg_name (i := 4) sc_had_without.nd rfl (by first | exact Or.inl rfl | exact Or.inr rfl)) pgs_nil)))) (fun _ _ _ _ _ => (pts_one (pt_cmpR (op_notInK (K := K) rfl) (pv 3) (pv 1) (by rfl)))) (fun _ _ _ _ _ => (pv 4))) (pss_cons (ps_set (i := 5) sc_had_without.nd rfl (by first | exact Or.inl rfl | exact Or.inr rfl) pe_non) (pss_cons (ps_set (i := 6) sc_had_without.nd rfl (by first | exact Or.inl rfl | exact Or.inr rfl) (pe_fldK (K := K) rfl (pv 0) rfl)) (pss_cons (ps_while PassesOwn.never (pt_cmpR op_ne (pv 6) (pv 5) (nomark _)) (pss_cons (ps_set (i := 5) sc_had_without.nd rfl (by first | exact Or.inl rfl | exact Or.inr rfl) (pv 6)) (pss_one (ps_for PassesOwn.never rfl (pi_listK (K := K) rfl (pv 2)) (pg_name (i := 4) sc_had_without.nd rfl (by first | exact Or.inl rfl | exact Or.inr rfl)) (pss_one (ps_if (pt_cmpR op_eq (pe_op op_and (pv 6) (pe_fldK (K := K) rfl (pv 4) rfl)) (pe_fldK (K := K) rfl (pv 4) rfl) (nomark _)) (pss_one (ps_set (i := 6) sc_had_without.nd rfl (by first | exact Or.inl rfl | exact Or.inr rfl) (pe_op op_or (pv 6) (pe_fldK (K := K) rfl (pv 4) rfl)))) pss_nil)))))) (pss_one (ps_ret (pv 6))))))), ?_⟩
  obtain ⟨la, as, h2, h3, h4, h5⟩ := acts_at T ht
  have hal : (as.map V.ref).length ≤ 8 := by
    rw [List.length_map, h3]
    exact hw.n8
  refine q_asgL (xs := given (as.map V.ref).length (fun k => !l.contains k) (fun k => (as.map V.ref).getD k .non)) (el_lcE _ _ (h4 _ _ (ev_var rfl)) h2 (by omega) (fun _ _ => rfl) (fun i x H1 e1 hi => ?_) (fun i x H1 e1 hi _ => ?_)) (fun po H1 hpo e1 ho => ?_)
  · exact et_is (et_test (ev_op (x := natV i) (ev_var rfl) (ev_var rfl) (rv_niL (sq_of (e1 _ _ hl)) rfl (flat_nats l)))) (by rw [inV_nat])
  · rw [getD_at hi]
    exact ev_var rfl
  refine q_asg (v := .non) ev_c (fun H2 e2 => ?_)
  refine q_asg (v := natV t.start) (ev_so T (ht.mono (e1.trans e2)) (ev_var rfl)) (fun H3 e3 => ?_)
  have e13 := e2.trans e3
  refine q_while (fun m σ' H' => ∃ (x : Nat) (oe : V) (o4 : Option V), σ' = [some (.ref pt), some (.ref pl), some (.ref po), none, o4, some oe, some (natV x)] ∧ Ex H1 H' ∧ HIs t l x ∧ ((oe = .non ∧ m = 2 ^ t.facts + 1) ∨ ∃ y, oe = natV y ∧ HIs t l y ∧ x = hpass (othersL t l) y ∧ m = 2 ^ t.facts - y))
    (2 ^ t.facts + 1) ⟨t.start, .non, none, rfl, e13, HIs.start t l, .inl ⟨rfl, rfl⟩⟩ (fun m σ' H' ⟨x, oe, o4, hσ, e4, hx, hoe⟩ => ?_)
  subst hσ
  have hsc : scal (natV x) oe = true := by
    rcases hoe with ⟨rfl, _⟩ | ⟨y, rfl, _⟩
    · rfl
    · rfl
  refine ⟨!decide (natV x = oe), et_test (ev_op (ev_var rfl) (ev_var rfl) (rv_ne hsc)), fun hb H5 e5 => ?_, fun hb H5 e5 => ?_⟩
  · have hne : natV x ≠ oe := by simpa using hb
    refine ⟨fun σ2 H2 => ∃ o4 : Option V, σ2 = [some (.ref pt), some (.ref pl), some (.ref po), none, o4, some (natV x), some (natV (hpass (othersL t l) x))] ∧ Ex H1 H2, fun σ2 H2 ⟨o4, g1, g2⟩ => ⟨2 ^ t.facts - x, ?_, _, _, o4, g1, g2, hx.next hw, .inr ⟨x, rfl, hx, rfl, rfl⟩⟩, ?_⟩
    · have hlt := hx.lt hw
      rcases hoe with ⟨_, rfl⟩ | ⟨y, rfl, hy, rfl, rfl⟩
      · omega
      · have h1 := hpass_le (othersL t l) y
        have h2 : hpass (othersL t l) y ≠ y := fun z => hne (by rw [z])
        omega
    refine q_asg (v := natV x) (ev_var rfl) (fun H6 e6 => ?_)
    have e46 := (e4.trans e5).trans e6
    refine s_forLn (xs := given (as.map V.ref).length (fun k => !l.contains k) (fun k => (as.map V.ref).getD k .non)) (ev_var rfl) (sq_of (e46 _ _ ho)) (fun i σ' H' => ∃ o4 : Option V, σ' = [some (.ref pt), some (.ref pl), some (.ref po), none, o4, some (natV x), some (natV (hpass ((othersL t l).take i) x))] ∧ Ex H1 H')
      (fun H7 e7 => ⟨o4, rfl, e46.trans e7⟩) (fun i σ' H' _ ⟨_, _, e⟩ => sq_of (e _ _ ho)) (fun i u σ' H' hi ⟨o4, hσ, e7⟩ => ?_) (fun σ' H' ⟨o4, hσ, e7⟩ => ?_)
    · subst hσ
      obtain ⟨a, act, rfl, ha, hact⟩ := others_at h3 h5 hi
      have hact7 := (hact.ex e1).ex e7
      have htk : (othersL t l).take (i + 1) = (othersL t l).take i ++ [act] := by
        rw [List.take_succ, ha]
        rfl
      have hstep : hpass ((othersL t l).take (i + 1)) x = hstep (hpass ((othersL t l).take i) x) act := by rw [htk, hpass_snoc]
      refine s_ifAsg (v := natV (hpass ((othersL t l).take (i + 1)) x)) (b := hpass ((othersL t l).take i) x &&& act.pre == act.pre) (et_test (ev_eqN (ev_band (a := hpass ((othersL t l).take i) x) (ev_var rfl) (ev_needs T hact7 (ev_var rfl))) (ev_needs T hact7 (ev_var rfl)))) (fun hb2 => ?_) (fun hb2 => ?_) (fun H8 e8 => ⟨some (.ref a), rfl, e7.trans e8⟩)
      · have hin : Pn.within act.pre (hpass ((othersL t l).take i) x) = true := by
          unfold Pn.within
          rw [Nat.and_comm] at hb2
          exact hb2
        rw [hstep]
        unfold PC.hstep
        rw [if_pos hin]
        exact ev_bor (a := hpass ((othersL t l).take i) x) (ev_var rfl) (ev_brings T hact7 (ev_var rfl))
      · have hin : ¬ Pn.within act.pre (hpass ((othersL t l).take i) x) = true := by
          unfold Pn.within
          rw [Nat.and_comm] at hb2
          intro z
          have z : (act.pre &&& hpass ((othersL t l).take i) x == act.pre) = true := z
          rw [hb2] at z
          cases z
        rw [hstep]
        unfold PC.hstep
        rw [if_neg hin]
        rfl
    · subst hσ
      rw [others_len t l h3, List.take_length]
      exact ⟨o4, rfl, e7⟩
  · have heq : natV x = oe := by simpa using hb
    have hx2 : x = hadAll t l := by
      rcases hoe with ⟨rfl, _⟩ | ⟨y, rfl, hy, hxy, _⟩
      · cases heq
      · have e : x = y := by
          have : (x : Int) = (y : Int) := V.int.inj heq
          omega
        rw [e] at hxy ⊢
        exact hy.done hw hxy.symm
    rw [← hx2] at k
    exact s_ret (ev_var rfl) (fun H6 e6 => k.go (((e1.trans e4).trans e5).trans e6))
/-! ### cuts, checked -/
theorem lists_at {H : Hp} {ys : List V} {rs : List (List Nat)} (h : ListsAt H ys (rs.map fun r => r.map natV)) {i : Nat} {x : V} (hx : ys[i]? = some x) : ∃ p r, x = .ref p ∧ rs[i]? = some r ∧ H p = some (.lst (r.map natV)) := by
  have hi := (List.getElem?_eq_some_iff.mp hx).1
  have hl := h.1
  rw [List.length_map] at hl
  have hr : rs[i]? = some rs[i] := List.getElem?_eq_getElem (by omega)
  obtain ⟨p, g1, g2⟩ := h.2 i (rs[i].map natV) (by rw [List.getElem?_map, hr]; rfl)
  rw [hx] at g1
  exact ⟨p, _, Option.some.inj g1, hr, g2⟩
theorem el_tail {σ : L2.St} {H : Hp} {ta : TE} {p : Addr} {r : List Nat} (ha : Ev ta σ H (.ref p)) (h : H p = some (.lst (r.map natV))) : EvL (tSl (rSlL K) ta (tPart (tC (.int 1))) tNoPart) σ H (r.tail.map natV) := by
  have e : cutV (r.map natV) (some ((0 + 1 : Nat) : Int)) none = r.tail.map natV := by
    rw [cut_from, ← List.map_drop, List.drop_one]
  rw [← e]
  exact el_sl ha (eo_some ev_c) eo_none (sq_of h)
theorem head_get {r : List Nat} (h : 0 < r.length) : (r.map natV)[0]? = some (natV (r.headD 0)) := by
  cases r with
  | nil => cases h
  | cons a l => rfl
def sp_cuts_check (_ : PySem.W.Frag) (A : Ad) : Sp := spL fun vs H xs => ∃ (pt : Addr) (t : Pn.Task) (c : Nat) (pl : Addr) (ys : List V) (rs : List (List Nat)), vs = [.ref pt, natV c, .ref pl] ∧ TaskAt A H pt t ∧ WF t ∧ H pl = some (.lst ys) ∧ ListsAt H ys (rs.map fun r => r.map natV) ∧ (∀ r ∈ rs, 0 < r.length) ∧ rs.length ≤ 1000 ∧ xs = (faultL (Pn18.checkCuts t c (rs.map asCut))).map natV
theorem pays_eq (rs : List (List Nat)) (k : Nat) : (((rs.map asCut).filter fun x => x.2.contains k).map fun x => x.1).map natV = (rs.filter fun r => r.tail.contains k).map fun r => natV (r.headD 0) := by
  rw [List.filter_map, List.map_map, List.map_map]
  rfl
theorem asCut_at {rs : List (List Nat)} {i : Nat} {r : List Nat} (h : rs[i]? = some r) : (rs.map asCut).getD i (0, []) = asCut r := getD_at (by rw [List.getElem?_map, h]; rfl)
theorem d_cuts_check (T : Top K mg A) (F : Fun K "cuts_check" "cuts_check" s_cuts_check f fd) (hf : mg "cuts_check" = some (.ref f)) (D_as_wanted : Def P w K mg base "as_wanted" 1 ["task", "state"] (sp_as_wanted K A)) (D_had_without : Def P w K mg base "had_without" 1 ["task", "cut_acts"] (sp_had_without K A)) : Def P w K mg base "cuts_check" 2 ["task", "claim", "cuts"] (sp_cuts_check K A) := by
  obtain ⟨f_as_wanted, fd_as_wanted, g_as_wanted, k_as_wanted, b_as_wanted, G_as_wanted⟩ := D_as_wanted
  obtain ⟨f_had_without, fd_had_without, g_had_without, k_had_without, b_had_without, G_had_without⟩ := D_had_without
  refine ⟨f, fd, hf, F.kp, F.binds (fun _ _ _ _ _ _ us hl => match us, hl with | [_, _, _], _ => rfl), F.ok sc_cuts_check (fun vs H Q E h => ?_) (fun cdv A' outer s H vs Q E hr h => ?_)⟩
  · obtain ⟨z, ⟨pt, t, c, pl, ys, rs, rfl, ht, hw, hl, hls, hne, hlen, rfl⟩, k⟩ := h
    rfl
  obtain ⟨z, ⟨pt, t, c, pl, ys, rs, rfl, ht, hw, hl, hls, hne, hlen, rfl⟩, k⟩ := h
  refine ⟨_, (pss_cons (ps_for PassesOwn.never rfl (pi_enum (by rfl) T.b_enumerate (pa_cons (pv 2) pa_nil)) (pg_tupK (K := K) (n := 2) rfl rfl (pgs_cons (pg_name (i := 3) sc_cuts_check.nd rfl (by first | exact Or.inl rfl | exact Or.inr rfl)) (pgs_cons (pg_name (i := 4) sc_cuts_check.nd rfl (by first | exact Or.inl rfl | exact Or.inr rfl)) pgs_nil))) (pss_one (ps_if (pt_val (pe_call G_as_wanted (hr.mono (by decide)) rfl g_as_wanted k_as_wanted b_as_wanted .nil pass0 (pa_cons (pv 0) (pa_cons (pe_call G_had_without (hr.mono (by decide)) rfl g_had_without k_had_without b_had_without .nil pass0 (pa_cons (pv 0) (pa_cons (pe_slice (sl_listK (K := K) rfl) (pv 4) (po_some pe_int) po_none) pa_nil))) pa_nil)))) (pss_one (ps_ret (pe_lst (pa_cons pe_int (pa_cons (pv 3) pa_nil))))) pss_nil))) (pss_cons (ps_for PassesOwn.never rfl (pi_enum (by rfl) T.b_enumerate (pa_cons (pe_fldK (K := K) rfl (pv 0) rfl) pa_nil)) (pg_tupK (K := K) (n := 2) rfl rfl (pgs_cons (pg_name (i := 5) sc_cuts_check.nd rfl (by first | exact Or.inl rfl | exact Or.inr rfl)) (pgs_cons (pg_name (i := 6) sc_cuts_check.nd rfl (by first | exact Or.inl rfl | exact Or.inr rfl)) pgs_nil))) (pss_one (ps_if (pt_cmpR op_lt (pe_fldK (K := K) rfl (pv 6) rfl) (pe_callB (cr_sum rfl) (by rfl) T.b_sum (by decide +kernel) (pa_cons (pe_lc (own := [("cut", 4)]) rfl sc_cuts_check.nd (pi_listK (K := K) rfl (pv 2)) (blkOk_by (N := N_cuts_check) (sc := defScope (top 13)) (by decide +kernel)) (fun _ _ _ _ _ => (pg_name (i := 4) sc_cuts_check.nd rfl (by first | exact Or.inl rfl | exact Or.inr rfl))) (fun _ _ _ _ _ => (pts_one (pt_cmpR (op_inK (K := K) rfl) (pv 5) (pe_slice (sl_listK (K := K) rfl) (pv 4) (po_some pe_int) po_none) (by rfl)))) (fun _ _ _ _ _ => (pe_ix (ix_listK (K := K) rfl) (pv 4) pe_int (fun _ _ => rfl)))) pa_nil)) (nomark _)) (pss_one (ps_ret (pe_lst (pa_cons pe_int (pa_cons (pv 5) pa_nil))))) pss_nil))) (pss_cons (ps_set (i := 7) sc_cuts_check.nd rfl (by first | exact Or.inl rfl | exact Or.inr rfl) (pe_callB (cr_sum rfl) (by rfl) T.b_sum (by decide +kernel) (pa_cons (pe_lc (own := [("cut", 4)]) rfl sc_cuts_check.nd (pi_listK (K := K) rfl (pv 2)) (blkOk_by (N := N_cuts_check) (sc := defScope (top 13)) (by decide +kernel)) (fun _ _ _ _ _ => (pg_name (i := 4) sc_cuts_check.nd rfl (by first | exact Or.inl rfl | exact Or.inr rfl))) (fun _ _ _ _ _ => pts_nil) (fun _ _ _ _ _ => (pe_ix (ix_listK (K := K) rfl) (pv 4) pe_int (fun _ _ => rfl)))) pa_nil))) (pss_cons (ps_if (pt_cmpR op_lt (pv 7) (pv 1) (nomark _)) (pss_one (ps_ret (pe_lst (pa_cons pe_int (pa_cons (pv 7) pa_nil))))) pss_nil) (pss_one (ps_ret (pe_lst (pa_cons pe_int pa_nil)))))))), ?_⟩
  rw [checkCuts_eq] at k
  have hyl : ys.length = rs.length := by
    have := hls.1
    rw [List.length_map] at this
    exact this
  have hrl : (rs.map asCut).length = rs.length := List.length_map _
  refine q_forE (xs := ys) (ev_var rfl) hl (fun i σ' H' => ∃ o1 o2 : Option V, σ' = [some (.ref pt), some (natV c), some (.ref pl), o1, o2, none, none, none] ∧ Ex H H' ∧ ∀ j, j < i → gone t ((rs.map asCut).getD j (0, [])) = false)
    (fun H1 e1 => ⟨none, none, rfl, e1, fun j hj => by omega⟩) (fun i σ' H' _ ⟨_, _, _, e, _⟩ => sq_of (e _ _ hl)) (fun i x σ' H' H'' hi ⟨o1, o2, hσ, e1, hno⟩ e2 => ?_) (fun σ' H1 ⟨o1, o2, hσ, e1, hno⟩ => ?_)
  · subst hσ
    obtain ⟨p, r, rfl, hr2, hp⟩ := lists_at hls hi
    have hi' := (List.getElem?_eq_some_iff.mp hr2).1
    have e12 := e1.trans e2
    have hg : gone t ((rs.map asCut).getD i (0, [])) = t.done (hadAll t r.tail) := by
      rw [asCut_at hr2]
      rfl
    refine s_when (b := gone t ((rs.map asCut).getD i (0, []))) (et_is (et_B (ev_call (ea_cons (ev_var rfl) (ea_cons (ev_call2L (x := .ref pt) (z := natV (hadAll t r.tail)) (ev_var rfl) (el_tail (ev_var rfl) (e12 _ _ hp)) (fun q H3 e3 h3 => spV_of fun H4 e4 => ⟨pt, t, q, r.tail, rfl, ht.mono ((e12.trans e3).trans e4), hw, e4 _ _ h3, rfl⟩)) ea_nil)) (spv_wanted (ht.mono e12)))) hg.symm) (fun hb H3 e3 => ?_) (fun hb H3 e3 => ?_)
    · have hf : ((List.range (rs.map asCut).length).find? fun i => gone t ((rs.map asCut).getD i (0, []))) = some i := fdr_hit (by rw [hrl]; exact hi') hb hno
      rw [hf] at k
      exact s_retL (xs := [natV 1, natV i]) (el_lst (ea_cons ev_c (ea_cons (ev_var rfl) ea_nil)) (by show 2 ≤ 100000; decide)) (fun q H4 hq e4 h4 => k q H4 (fresh_back (e12.trans e3) hq) ((e12.trans e3).trans e4) h4)
    · refine ⟨some (natV i), some (.ref p), rfl, e12.trans e3, fun j hj => ?_⟩
      by_cases q : j < i
      · exact hno j q
      · have q : j = i := by omega
        subst q
        exact hb
  subst hσ
  have hf : ((List.range (rs.map asCut).length).find? fun i => gone t ((rs.map asCut).getD i (0, []))) = none := fdr_none fun j hj => hno j (by rw [hyl, ← hrl]; exact hj)
  rw [hf] at k
  obtain ⟨la, as, h2, h3, h4, h5⟩ := acts_at T (ht.mono e1)
  refine q_forE (xs := as.map V.ref) (h4 _ _ (ev_var rfl)) h2 (fun i σ' H' => ∃ o3 o4 : Option V, σ' = [some (.ref pt), some (natV c), some (.ref pl), o1, o2, o3, o4, none] ∧ Ex H1 H' ∧ ∀ j, j < i → dearer t (rs.map asCut) j = false)
    (fun H2 e2 => ⟨none, none, rfl, e2, fun j hj => by omega⟩) (fun i σ' H' _ ⟨_, _, _, e, _⟩ => sq_of (e _ _ h2)) (fun i x σ' H' H'' hi ⟨o3, o4, hσ, e2, hno2⟩ e3 => ?_) (fun σ' H2 ⟨o3, o4, hσ, e2, hno2⟩ => ?_)
  · subst hσ
    obtain ⟨a, act, rfl, ha, hact⟩ := h5 i x hi
    obtain ⟨hi', rfl⟩ := act_some ha
    have e23 := e2.trans e3
    have e03 := e1.trans e23
    refine s_when (b := dearer t (rs.map asCut) i) (et_is (et_test (ev_op (ev_cost T (hact.ex e23) (ev_var rfl)) (ev_sumN (ms := ((rs.map asCut).filter fun x => x.2.contains i).map fun x => x.1) ?_) rv_I0)) ?_) (fun hb H4 e4 => ?_) (fun hb H4 e4 => ?_)
    · rw [pays_eq, ← given_list rs [] (fun r => r.tail.contains i) (fun r => natV (r.headD 0)), ← hyl]
      refine el_lcL _ _ (ev_var rfl) (sq_of (e03 _ _ hl)) (by omega) (fun _ => rfl) (fun j y H4 e4 hj => ?_) (fun j y H4 e4 hj _ => ?_)
      · obtain ⟨p, r, rfl, hr2, hp⟩ := lists_at hls hj
        rw [getD_at hr2]
        refine et_is (et_test (ev_opL (x := natV i) (xs := r.tail.map natV) (ev_var rfl) (el_tail (ev_var rfl) (e4 _ _ (e03 _ _ hp))) (fun q H5 h5 _ => rv_isL (sq_of h5) rfl (flat_nats _)))) (by rw [inV_nat])
      · obtain ⟨p, r, rfl, hr2, hp⟩ := lists_at hls hj
        rw [getD_at hr2]
        exact ev_ixN (i := 0) (ev_var rfl) ev_c (e4 _ _ (e03 _ _ hp)) (head_get (hne r (List.mem_of_getElem? hr2)))
    · exact decide_eq_decide.mpr (by
        unfold pays
        omega)
    · have hf : (List.range t.acts.length).find? (dearer t (rs.map asCut)) = some i := fdr_hit hi' hb hno2
      rw [hf] at k
      exact s_retL (xs := [natV 2, natV i]) (el_lst (ea_cons ev_c (ea_cons (ev_var rfl) ea_nil)) (by show 2 ≤ 100000; decide)) (fun q H5 hq e5 h5 => k q H5 (fresh_back (e03.trans e4) hq) ((e03.trans e4).trans e5) h5)
    · refine ⟨some (natV i), some (.ref a), rfl, e23.trans e4, fun j hj => ?_⟩
      by_cases q : j < i
      · exact hno2 j q
      · have q : j = i := by omega
        subst q
        exact hb
  subst hσ
  have hf : (List.range t.acts.length).find? (dearer t (rs.map asCut)) = none := fdr_none fun j hj => hno2 j (by rw [List.length_map, h3]; exact hj)
  rw [hf] at k
  have k : RetL ((faultL (if worthS (rs.map asCut) < c then some [3, worthS (rs.map asCut)] else none)).map natV) H Q := k
  have e02 := e1.trans e2
  refine q_asg (v := natV (worthS (rs.map asCut))) (ev_sumN (ms := (rs.map asCut).map fun x => x.1) ?_) (fun H3 e3 => ?_)
  · rw [List.map_map, List.map_map]
    refine el_map (by rw [List.length_map, hyl]) (ev_var rfl) (e02 _ _ hl) (by omega) (fun _ => rfl) (fun j x y H3 e3 hx hy => ?_)
    obtain ⟨p, r, rfl, hr2, hp⟩ := lists_at hls hx
    rw [List.getElem?_map, hr2] at hy
    cases (Option.some.inj hy)
    exact ev_ixN (i := 0) (ev_var rfl) ev_c (e3 _ _ (e02 _ _ hp)) (head_get (hne r (List.mem_of_getElem? hr2)))
  have e03 := e02.trans e3
  refine q_when (b := decide (worthS (rs.map asCut) < c)) (et_is (et_test (ev_op (ev_var rfl) (ev_var rfl) rv_I0)) (decide_eq_decide.mpr (by omega))) (fun hb H4 e4 => ?_) (fun hb H4 e4 => ?_)
  · rw [if_pos (of_decide_eq_true hb)] at k
    exact s_retL (xs := [natV 3, natV (worthS (rs.map asCut))]) (el_lst (ea_cons ev_c (ea_cons (ev_var rfl) ea_nil)) (by show 2 ≤ 100000; decide)) (fun q H5 hq e5 h5 => k q H5 (fresh_back (e03.trans e4) hq) ((e03.trans e4).trans e5) h5)
  · rw [if_neg (of_decide_eq_false hb)] at k
    exact s_retL (xs := [natV 0]) (el_lst (ea_cons ev_c ea_nil) (by show 1 ≤ 100000; decide)) (fun q H5 hq e5 h5 => k q H5 (fresh_back (e03.trans e4) hq) ((e03.trans e4).trans e5) h5)
/-! ### plan and table as a pair -/
def sp_pair_check (_ : PySem.W.Frag) (A : Ad) : Sp := spL fun vs H xs => ∃ (pt : Addr) (t : Pn.Task) (pl : Addr) (l : List Nat) (ph : Addr) (h : List Nat), vs = [.ref pt, .ref pl, .ref ph] ∧ TaskAt A H pt t ∧ WF t ∧ H pl = some (.lst (l.map natV)) ∧ l.length ≤ 1000 ∧ H ph = some (.lst (h.map natV)) ∧ h.length ≤ 1000 ∧ xs = (pairL t l h).map natV
theorem d_pair_check (T : Top K mg A) (F : Fun K "pair_check" "pair_check" s_pair_check f fd) (hf : mg "pair_check" = some (.ref f)) (D_table_check : Def P w K mg base "table_check" 3 ["task", "claim", "numbers"] (sp_table_check K A)) (D_plan_check : Def P w K mg base "plan_check" 2 ["task", "claim", "plan"] (sp_plan_check K A)) : Def P w K mg base "pair_check" 4 ["task", "plan", "numbers"] (sp_pair_check K A) := by
  obtain ⟨f_table_check, fd_table_check, g_table_check, k_table_check, b_table_check, G_table_check⟩ := D_table_check
  obtain ⟨f_plan_check, fd_plan_check, g_plan_check, k_plan_check, b_plan_check, G_plan_check⟩ := D_plan_check
  refine ⟨f, fd, hf, F.kp, F.binds (fun _ _ _ _ _ _ us hl => match us, hl with | [_, _, _], _ => rfl), F.ok sc_pair_check (fun vs H Q E h => ?_) (fun cdv A' outer s H vs Q E hr h => ?_)⟩
  · obtain ⟨z, ⟨pt, t, pl, l, ph, h, rfl, ht, hw, hl, hlen, hh, hhl, rfl⟩, k⟩ := h
    rfl
  obtain ⟨z, ⟨pt, t, pl, l, ph, h, rfl, ht, hw, hl, hlen, hh, hhl, rfl⟩, k⟩ := h
  refine ⟨_, (pss_cons (ps_set (i := 3) sc_pair_check.nd rfl (by first | exact Or.inl rfl | exact Or.inr rfl) (pe_callB (cr_sum rfl) (by rfl) T.b_sum (by decide +kernel) (pa_cons (pe_lc (own := [("number", 4)]) rfl sc_pair_check.nd (pi_listK (K := K) rfl (pv 1)) (blkOk_by (N := N_pair_check) (sc := defScope (top 19)) (by decide +kernel)) (fun _ _ _ _ _ => (pg_name (i := 4) sc_pair_check.nd rfl (by first | exact Or.inl rfl | exact Or.inr rfl))) (fun _ _ _ _ _ => (pts_one (pt_cmpR op_lt (pv 4) (pe_callB (call_lenK (K := K) rfl) (by rfl) T.b_len (by decide +kernel) (pa_cons (pe_fldK (K := K) rfl (pv 0) rfl) pa_nil)) (nomark _)))) (fun _ _ _ _ _ => (pe_fldK (K := K) rfl (pe_ix (ix_listK (K := K) rfl) (pe_fldK (K := K) rfl (pv 0) rfl) (pv 4) (fun _ _ => rfl)) rfl))) pa_nil))) (pss_cons (ps_if (PW.pt (pw_and (pt_cmpR (op_eqD hr.units) (pe_call G_plan_check (hr.mono (by decide)) rfl g_plan_check k_plan_check b_plan_check .nil pass0 (pa_cons (pv 0) (pa_cons (pv 3) (pa_cons (pv 1) pa_nil)))) (pe_lst (pa_cons pe_int pa_nil)) (nomark _)) (pw_and1 (pt_cmpR (op_eqD hr.units) (pe_call G_table_check (hr.mono (by decide)) rfl g_table_check k_table_check b_table_check .nil pass0 (pa_cons (pv 0) (pa_cons (pv 3) (pa_cons (pv 2) pa_nil)))) (pe_lst (pa_cons pe_int pa_nil)) (nomark _))))) (pss_one (ps_ret (pe_lst (pa_cons pe_int (pa_cons (pv 3) pa_nil))))) pss_nil) (pss_one (ps_ret (pe_lst (pa_cons pe_int pa_nil)))))), ?_⟩
  obtain ⟨la, as, h2, h3, h4, h5⟩ := acts_at T ht
  have hll : (l.map natV).length = l.length := List.length_map _
  refine q_asg (v := natV (pairCost t l)) (ev_sumN (ms := (l.filter fun k => decide (k < t.acts.length)).map fun k => (t.act k).cost) ?_) (fun H1 e1 => ?_)
  · rw [List.map_map, show (natV ∘ fun k => (t.act k).cost) = fun k => natV (t.act k).cost from rfl, ← given_list l 0 (fun k => decide (k < t.acts.length)) (fun k => natV (t.act k).cost), ← hll]
    refine el_lcL _ _ (ev_var rfl) (sq_of hl) (by rw [hll]; omega) (fun _ => rfl) (fun j y H4 e4 hj => ?_) (fun j y H4 e4 hj hf => ?_)
    · obtain ⟨n, hn, rfl⟩ := nat_at hj
      rw [getD_at hn]
      exact et_is (et_test (ev_op (ev_var rfl) (ev_lenN (n := t.acts.length) ((h4 _ _ (ev_var rfl)).mono e4) (e4 _ _ h2) (by rw [List.length_map, h3])) rv_I0)) (decide_eq_decide.mpr (by omega))
    · obtain ⟨n, hn, rfl⟩ := nat_at hj
      rw [getD_at hn] at hf ⊢
      obtain ⟨a, ha, hact⟩ := act_ix h3 h5 (of_decide_eq_true hf)
      exact ev_cost T (hact.ex e4) (ev_ixN (i := n) ((h4 _ _ (ev_var rfl)).mono e4) (ev_var rfl) (e4 _ _ h2) ha)
  have hb0 : (decide (faultL (Pn18.checkPlan t (pairCost t l) 0 t.start 0 l) = [0]) && decide (faultL (Pn18.checkTable t (pairCost t l) h) = [0])) = decide (faultL (Pn18.checkPlan t (pairCost t l) 0 t.start 0 l) = [0] ∧ faultL (Pn18.checkTable t (pairCost t l) h) = [0]) := (Bool.decide_and _ _).symm
  refine q_when (b := decide (faultL (Pn18.checkPlan t (pairCost t l) 0 t.start 0 l) = [0] ∧ faultL (Pn18.checkTable t (pairCost t l) h) = [0])) (et_is (et_and (et_test (ev_eqLL (m := [0]) (el_call (ea_cons (ev_var rfl) (ea_cons (ev_var rfl) (ea_cons (ev_var rfl) ea_nil))) (spL_of fun H2 e2 => ⟨pt, t, pairCost t l, pl, l, rfl, ht.mono (e1.trans e2), hw, e2 _ _ (e1 _ _ hl), hlen, rfl⟩)) (el_lst (ea_cons ev_c ea_nil) (by show 1 ≤ 100000; decide)))) (fun _ => et_test (ev_eqLL (m := [0]) (el_call (ea_cons (ev_var rfl) (ea_cons (ev_var rfl) (ea_cons (ev_var rfl) ea_nil))) (spL_of fun H2 e2 => ⟨pt, t, pairCost t l, ph, h, rfl, ht.mono (e1.trans e2), hw, e2 _ _ (e1 _ _ hh), hhl, rfl⟩)) (el_lst (ea_cons ev_c ea_nil) (by show 1 ≤ 100000; decide))))) hb0) (fun hb H2 e2 => ?_) (fun hb H2 e2 => ?_)
  · unfold pairL at k
    rw [if_pos (of_decide_eq_true hb)] at k
    exact s_retL (xs := [natV 1, natV (pairCost t l)]) (el_lst (ea_cons ev_c (ea_cons (ev_var rfl) ea_nil)) (by show 2 ≤ 100000; decide)) (fun q H5 hq e5 h5 => k q H5 (fresh_back (e1.trans e2) hq) ((e1.trans e2).trans e5) h5)
  · unfold pairL at k
    rw [if_neg (of_decide_eq_false hb)] at k
    exact s_retL (xs := [natV 0]) (el_lst (ea_cons ev_c ea_nil) (by show 1 ≤ 100000; decide)) (fun q H5 hq e5 h5 => k q H5 (fresh_back (e1.trans e2) hq) ((e1.trans e2).trans e5) h5)
/-! ### what is told, looked at -/
def sp_are_below (_ : PySem.W.Frag) (_ : Ad) : Sp := spV fun vs H z => ∃ (n : Nat) (p : Addr) (l : List Nat), vs = [natV n, .ref p] ∧ H p = some (.lst (l.map natV)) ∧ l.length ≤ 1000 ∧ z = .bl (l.all fun k => decide (k < n))
theorem d_are_below (T : Top K mg A) (F : Fun K "are_below" "are_below" s_are_below f fd) (hf : mg "are_below" = some (.ref f))  : Def P w K mg base "are_below" 1 ["end", "numbers"] (sp_are_below K A) := by
  refine ⟨f, fd, hf, F.kp, F.binds (fun _ _ _ _ _ _ us hl => match us, hl with | [_, _], _ => rfl), F.ok sc_are_below (fun vs H Q E h => ?_) (fun cdv A' outer s H vs Q E hr h => ?_)⟩
  · obtain ⟨z, ⟨n, p, l, rfl, hp, hlen, rfl⟩, k⟩ := h
    rfl
  obtain ⟨z, ⟨n, p, l, rfl, hp, hlen, rfl⟩, k⟩ := h
  refine ⟨_, (pss_one (ps_ret (pe_callB (cr_allK (K := K) rfl rfl) (by rfl) T.b_all (by decide +kernel) (pa_cons (pe_lc (own := [("number", 2)]) rfl sc_are_below.nd (pi_listK (K := K) rfl (pv 1)) (blkOk_by (N := N_are_below) (sc := defScope (top 77)) (by decide +kernel)) (fun _ _ _ _ _ => (pg_name (i := 2) sc_are_below.nd rfl (by first | exact Or.inl rfl | exact Or.inr rfl))) (fun _ _ _ _ _ => pts_nil) (fun _ _ _ _ _ => (pe_cmpR op_lt (pv 2) (pv 0) (nomark _)))) pa_nil)))), ?_⟩
  refine s_ret (v := .bl (l.all fun k => decide (k < n))) (ev_is (ev_all (bs := l.map fun k => decide (k < n)) (el_map (by rw [List.length_map, List.length_map, List.length_map]) (ev_var rfl) hp (by rw [List.length_map]; omega) (fun _ => rfl) (fun i x y H1 e1 hx hy => ?_))) (by rw [List.all_map]; rfl)) (fun H1 e => k.go e)
  obtain ⟨m, hm, rfl⟩ := nat_at hx
  rw [List.getElem?_map, List.getElem?_map, hm] at hy
  cases (Option.some.inj hy)
  exact ev_is (ev_op (ev_var rfl) (ev_var rfl) rv_I0) (congrArg V.bl (decide_eq_decide.mpr (by omega)))
def sp_is_cut (_ : PySem.W.Frag) (_ : Ad) : Sp := spV fun vs H z => ∃ (p : Addr) (r : List Nat) (la : Addr) (xs : List V), vs = [.ref p, .ref la] ∧ H p = some (.lst (r.map natV)) ∧ r.length ≤ 1000 ∧ H la = some (.lst xs) ∧ z = .bl (isCutB xs.length r)
theorem d_is_cut (T : Top K mg A) (F : Fun K "is_cut" "is_cut" s_is_cut f fd) (hf : mg "is_cut" = some (.ref f)) (D_are_below : Def P w K mg base "are_below" 1 ["end", "numbers"] (sp_are_below K A)) : Def P w K mg base "is_cut" 2 ["cut", "acts"] (sp_is_cut K A) := by
  obtain ⟨f_are_below, fd_are_below, g_are_below, k_are_below, b_are_below, G_are_below⟩ := D_are_below
  refine ⟨f, fd, hf, F.kp, F.binds (fun _ _ _ _ _ _ us hl => match us, hl with | [_, _], _ => rfl), F.ok sc_is_cut (fun vs H Q E h => ?_) (fun cdv A' outer s H vs Q E hr h => ?_)⟩
  · obtain ⟨z, ⟨p, r, la, xs, rfl, hp, hlen, hla, rfl⟩, k⟩ := h
    rfl
  obtain ⟨z, ⟨p, r, la, xs, rfl, hp, hlen, hla, rfl⟩, k⟩ := h
  refine ⟨_, (pss_one (ps_ret (pe_and (pe_cmpR op_gt (pe_callB (call_lenK (K := K) rfl) (by rfl) T.b_len (by decide +kernel) (pa_cons (pv 0) pa_nil)) pe_int (nomark _)) (pe_one (pe_call G_are_below (hr.mono (by decide)) rfl g_are_below k_are_below b_are_below .nil pass0 (pa_cons (pe_callB (call_lenK (K := K) rfl) (by rfl) T.b_len (by decide +kernel) (pa_cons (pv 1) pa_nil)) (pa_cons (pe_slice (sl_listK (K := K) rfl) (pv 0) (po_some pe_int) po_none) pa_nil))))))), ?_⟩
  refine s_ret (v := .bl (isCutB xs.length r)) ?_ (fun H1 e => k.go e)
  refine ev_andV (ev_is (ev_op (ev_lenN (n := r.length) (ev_var rfl) hp (List.length_map _)) ev_c rv_I0) (congrArg V.bl (decide_eq_decide.mpr (by omega)))) (fun _ => ?_)
  exact ev_call2L (x := natV xs.length) (ev_lenN (ev_var rfl) hla rfl) (el_tail (ev_var rfl) hp) (fun q H1 e1 h1 => spV_of fun H2 e2 => ⟨xs.length, q, r.tail, rfl, e2 _ _ h1, by rw [List.length_tail]; omega, rfl⟩)
end
end PC

set_option Elab.async false
set_option linter.all false
set_option maxRecDepth 100000
set_option maxHeartbeats 2000000
namespace PC
open PySem PySem.Spec PyProof.Rows L2 Evl
open Pn02 (Clause)
/-! ### new pairs over a range with steps -/
section
variable {σ : L2.St} {H H' : Hp} {te : TE}
theorem walk_rangeC {lo c : Int} {n : Nat} : Walk (Itc lo c n) n (fun _ => True) (YFn fun i => .int (lo + (i : Nat) * c)) := ⟨fun i H hi _ => hi, fun H _ => Nat.le_refl n, fun i H x H' _ _ y => y⟩
def CwU (H : Hp) (cs : Nat → List V) (Dl : Addr) (i : Nat) (H' : Hp) : Prop := H Dl = none ∧ Ex H H' ∧ ∃ ys : List V, H' Dl = some (.lst ys) ∧ ys.length = i ∧ ∀ j, j < i → ∃ p, ys[j]? = some (.ref p) ∧ H' p = some (.tup (cs j))
theorem cwu_turn {H0 : Hp} {cs : Nat → List V} {Dl : Addr} {i : Nat} {σ2 : L2.St} (p : CwU H0 cs Dl i H') (hi : i < 50000) (he : EvU te σ2 H0 (cs i)) :
    te σ2 H' fun y H4 => ∃ acc, H4 Dl = some (.lst acc) ∧ acc.length < sizeLine ∧ CwU H0 cs Dl (i + 1) (upd H4 Dl (.lst (acc ++ [y]))) := by
  obtain ⟨p1, p2, ys, p3, p4, p5⟩ := p
  refine he H' p2 _ fun q H4 hq e4 h4 => ⟨ys, e4 _ _ p3, sz_lt (by omega), p1, Ex.mut (p2.trans e4) p1, ys ++ [.ref q], upd_same, by rw [List.length_append, p4]; rfl, fun j hj => ?_⟩
  have nt : ∀ r us, H4 r = some (.tup us) → r ≠ Dl := fun r us hr z => by
    rw [z, e4 _ _ p3] at hr
    cases hr
  by_cases z : j < i
  · obtain ⟨r, g1, g2⟩ := p5 j z
    refine ⟨r, by rw [List.getElem?_append_left (by omega)]; exact g1, ?_⟩
    rw [upd_ne (nt r _ (e4 _ _ g2))]
    exact e4 _ _ g2
  · have z : j = i := by omega
    subst z
    refine ⟨q, ?_, ?_⟩
    · rw [List.getElem?_append_right (by omega), p4, Nat.sub_self]
      rfl
    · rw [upd_ne (nt q _ h4)]
      exact h4
theorem ep_tupsC {ta : TA} {lo hi c : Int} {n j : Nat} {vs : List Nat} (cs : Nat → List V) (h : EvA ta σ H [.int lo, .int hi, .int c]) (hg : RgC lo hi c n) (hn : n ≤ 40000) (hw : ∀ x, wipe ((wipe σ vs).set j (some x)) vs = wipe σ vs)
    (he : ∀ (i : Nat) H1, Ex H H1 → i < n → EvU te ((wipe σ vs).set j (some (.int (lo + (i : Nat) * c)))) H1 (cs i)) :
    EvP (tLc (iRng3 ta) (gName j) tYes te vs) σ H (fun v H2 => ∃ p ys, v = .ref p ∧ H2 p = some (.lst ys) ∧ ys.length = n ∧ ∀ i, i < n → ∃ q, ys[i]? = some (.ref q) ∧ H2 q = some (.tup (cs i))) := fun H0 e Q q => h H0 e _ fun H1 e1 => ⟨lo, hi, c, n, rfl, hg, fun Dl hD =>
  lc_it walk_rangeC (CwU H1 cs Dl) ⟨hD, Ex.new hD, [], upd_same, rfl, fun j hj => by omega⟩ (fun _ _ _ _ => trivial) (fun i x H2 H3 hi p y => by
    obtain ⟨y1, y2⟩ := y
    subst y1 y2
    exact ⟨hw _, cwu_turn p (by omega) (he i H1 (e.trans e1) hi)⟩) (fun H' p => by
    obtain ⟨p1, p2, ys, p3, p4, p5⟩ := p
    exact q _ H' (e1.trans p2) ⟨Dl, ys, rfl, p3, p4, p5⟩)⟩
end
theorem rg2 (n : Nat) (h : n ≤ 10) : RgC 0 ((2 * n : Nat) : Int) 2 n := by
  have : n = 0 ∨ n = 1 ∨ n = 2 ∨ n = 3 ∨ n = 4 ∨ n = 5 ∨ n = 6 ∨ n = 7 ∨ n = 8 ∨ n = 9 ∨ n = 10 := by omega
  rcases this with rfl | rfl | rfl | rfl | rfl | rfl | rfl | rfl | rfl | rfl | rfl <;> exact ⟨by decide, by decide, by decide +kernel, by decide +kernel⟩
section
variable {P : Program} {w : World} {K : PySem.W.Frag} {mg : Str → Option Value} {base : Heap} {A : Ad} {f : Addr} {fd : FuncData}
/-! ### the house's calls of stage 2 -/
abbrev s_House_table : Stmt := inClass (top 79) 6
abbrev N_House_table : List Str := ["self", "claim", "numbers"]
theorem sc_House_table : FnScope N_House_table ["self", "claim", "numbers"] (defScope s_House_table) := ⟨rfl, rfl, rfl, by decide +kernel, rfl, by decide +kernel, by decide +kernel⟩
abbrev s_House_cuts : Stmt := inClass (top 79) 7
abbrev N_House_cuts : List Str := ["self", "claim", "told", "cut"]
theorem sc_House_cuts : FnScope N_House_cuts ["self", "claim", "told"] (defScope s_House_cuts) := ⟨rfl, rfl, rfl, by decide +kernel, rfl, by decide +kernel, by decide +kernel⟩
abbrev s_House_state_set : Stmt := inClass (top 79) 8
abbrev N_House_state_set : List Str := ["self", "states", "state"]
theorem sc_House_state_set : FnScope N_House_state_set ["self", "states"] (defScope s_House_state_set) := ⟨rfl, rfl, rfl, by decide +kernel, rfl, by decide +kernel, by decide +kernel⟩
abbrev s_House_clauses : Stmt := inClass (top 79) 9
abbrev N_House_clauses : List Str := ["self", "literals", "told", "at"]
theorem sc_House_clauses : FnScope N_House_clauses ["self", "literals"] (defScope s_House_clauses) := ⟨rfl, rfl, rfl, by decide +kernel, rfl, by decide +kernel, by decide +kernel⟩
abbrev s_House_pair : Stmt := inClass (top 79) 10
abbrev N_House_pair : List Str := ["self", "acts", "numbers"]
theorem sc_House_pair : FnScope N_House_pair ["self", "acts", "numbers"] (defScope s_House_pair) := ⟨rfl, rfl, rfl, by decide +kernel, rfl, by decide +kernel, by decide +kernel⟩
def sp_House_table (_ : PySem.W.Frag) (A : Ad) : Sp := fun vs H Q _ => ∃ (p ph : Addr) (t : Pn.Task) (c : Nat) (h : List Nat), vs = [.ref p, natV c, .ref ph] ∧ HouseAt A H p t ∧ WF t ∧ H ph = some (.lst (h.map natV)) ∧ h.length ≤ 1000 ∧ MPost A H p (taskOf t (.table c h)) (answerOf t (.table c h)) Q
theorem d_House_table (T : Top K mg A) (F : Fun K "table" "House.table" s_House_table f fd) (hM : Meth K A.house "table" f) (D_table_check : Def P w K mg base "table_check" 3 ["task", "claim", "numbers"] (sp_table_check K A)) : DefM P w K mg base A.house "table" 4 ["self", "claim", "numbers"] (sp_House_table K A) := by
  obtain ⟨f_table_check, fd_table_check, g_table_check, k_table_check, b_table_check, G_table_check⟩ := D_table_check
  refine ⟨f, fd, hM, F.binds (fun _ _ _ _ _ _ us hl => match us, hl with | [_, _, _], _ => rfl), F.ok sc_House_table (fun vs H Q E h => ?_) (fun cdv A' outer s H vs Q E hr h => ?_)⟩
  · obtain ⟨p, ph, t, c, h, rfl, hh, hw, hl, hlen, k⟩ := h
    rfl
  obtain ⟨p, ph, t, c, h, rfl, hh, hw, hl, hlen, k⟩ := h
  refine ⟨_, (pss_one (ps_ret (pe_call G_table_check (hr.mono (by decide)) rfl g_table_check k_table_check b_table_check .nil pass0 (pa_cons (pe_fldK (K := K) rfl (pv 0) rfl) (pa_cons (pv 1) (pa_cons (pv 2) pa_nil)))))), ?_⟩
  obtain ⟨pt, ht, hev⟩ := ev_task T (ta := tVar 0) (σ := []) hh
  have e : answerOf t (.table c h) = (faultL (Pn18.checkTable t c h)).map fun (n : Nat) => (n : Int) := told_fault _ (table_ne t c h)
  rw [e] at k
  have hk : MPost A H p t _ Q := k
  exact s_retL (xs := (faultL (Pn18.checkTable t c h)).map natV) (el_call (ea_cons (hev _ _ (ev_var rfl)) (ea_cons (ev_var rfl) (ea_cons (ev_var rfl) ea_nil))) (spL_of fun H1 e1 => ⟨pt, t, c, ph, h, rfl, ht.mono e1, hw, e1 _ _ hl, hlen, rfl⟩)) (fun q H1 hq e1 h1 => hk.same hh e1 hq (by rw [nats_int]; exact h1))
def sp_House_pair (_ : PySem.W.Frag) (A : Ad) : Sp := fun vs H Q _ => ∃ (p pl : Addr) (ph : Addr) (t : Pn.Task) (l h : List Nat), vs = [.ref p, .ref pl, .ref ph] ∧ HouseAt A H p t ∧ WF t ∧ H pl = some (.lst (l.map natV)) ∧ l.length ≤ 1000 ∧ H ph = some (.lst (h.map natV)) ∧ h.length ≤ 1000 ∧ MPost A H p (taskOf t (.pair l h)) (answerOf t (.pair l h)) Q
theorem d_House_pair (T : Top K mg A) (F : Fun K "pair" "House.pair" s_House_pair f fd) (hM : Meth K A.house "pair" f) (D_pair_check : Def P w K mg base "pair_check" 4 ["task", "plan", "numbers"] (sp_pair_check K A)) : DefM P w K mg base A.house "pair" 5 ["self", "acts", "numbers"] (sp_House_pair K A) := by
  obtain ⟨f_pair_check, fd_pair_check, g_pair_check, k_pair_check, b_pair_check, G_pair_check⟩ := D_pair_check
  refine ⟨f, fd, hM, F.binds (fun _ _ _ _ _ _ us hl => match us, hl with | [_, _, _], _ => rfl), F.ok sc_House_pair (fun vs H Q E h => ?_) (fun cdv A' outer s H vs Q E hr h => ?_)⟩
  · obtain ⟨p, pl, ph, t, l, h, rfl, hh, hw, hl, hlen, hph, hhl, k⟩ := h
    rfl
  obtain ⟨p, pl, ph, t, l, h, rfl, hh, hw, hl, hlen, hph, hhl, k⟩ := h
  refine ⟨_, (pss_one (ps_ret (pe_call G_pair_check (hr.mono (by decide)) rfl g_pair_check k_pair_check b_pair_check .nil pass0 (pa_cons (pe_fldK (K := K) rfl (pv 0) rfl) (pa_cons (pv 1) (pa_cons (pv 2) pa_nil)))))), ?_⟩
  obtain ⟨pt, ht, hev⟩ := ev_task T (ta := tVar 0) (σ := []) hh
  have e : answerOf t (.pair l h) = (pairL t l h).map fun (n : Nat) => (n : Int) := pair_eq t l h
  rw [e] at k
  have hk : MPost A H p t _ Q := k
  exact s_retL (xs := (pairL t l h).map natV) (el_call (ea_cons (hev _ _ (ev_var rfl)) (ea_cons (ev_var rfl) (ea_cons (ev_var rfl) ea_nil))) (spL_of fun H1 e1 => ⟨pt, t, pl, l, ph, h, rfl, ht.mono e1, hw, e1 _ _ hl, hlen, e1 _ _ hph, hhl, rfl⟩)) (fun q H1 hq e1 h1 => hk.same hh e1 hq (by rw [nats_int]; exact h1))
def sp_House_state_set (_ : PySem.W.Frag) (A : Ad) : Sp := fun vs H Q _ => ∃ (p pl : Addr) (t : Pn.Task) (l : List Nat), vs = [.ref p, .ref pl] ∧ HouseAt A H p t ∧ WF t ∧ H pl = some (.lst (l.map natV)) ∧ l.length ≤ 1000 ∧ MPost A H p (taskOf t (.set l)) (answerOf t (.set l)) Q
theorem set_step (t : Pn.Task) (l : List Nat) : Pn18.step ⟨t⟩ (.set l) = if (l.all fun s => decide (s < 2 ^ t.facts)) = true then (⟨t⟩, Pn18.told (Pn18.checkSet t l)) else (⟨t⟩, Pn18.ok (-1)) := by
  show (if (l.any fun s => decide (2 ^ t.facts ≤ s)) = true then ((⟨t⟩ : Pn18.House), Pn18.ok (-1)) else (⟨t⟩, Pn18.told (Pn18.checkSet t l))) = _
  by_cases q : (l.all fun s => decide (s < 2 ^ t.facts)) = true
  · rw [if_pos q, if_neg]
    intro z
    obtain ⟨s, hs, h⟩ := List.any_eq_true.mp z
    have := List.all_eq_true.mp q s hs
    have := of_decide_eq_true this
    have := of_decide_eq_true h
    omega
  · rw [if_neg q, if_pos]
    apply Classical.byContradiction
    intro z
    apply q
    refine List.all_eq_true.mpr fun s hs => ?_
    apply decide_eq_true
    apply Classical.byContradiction
    intro y
    exact z (List.any_eq_true.mpr ⟨s, hs, decide_eq_true (by omega)⟩)
theorem d_House_state_set (T : Top K mg A) (F : Fun K "state_set" "House.state_set" s_House_state_set f fd) (hM : Meth K A.house "state_set" f) (D_set_check : Def P w K mg base "set_check" 2 ["task", "states"] (sp_set_check K A)) (D_are_there : Def P w K mg base "are_there" 1 ["facts", "group"] (sp_are_there K A)) : DefM P w K mg base A.house "state_set" 3 ["self", "states"] (sp_House_state_set K A) := by
  obtain ⟨f_set_check, fd_set_check, g_set_check, k_set_check, b_set_check, G_set_check⟩ := D_set_check
  obtain ⟨f_are_there, fd_are_there, g_are_there, k_are_there, b_are_there, G_are_there⟩ := D_are_there
  refine ⟨f, fd, hM, F.binds (fun _ _ _ _ _ _ us hl => match us, hl with | [_, _], _ => rfl), F.ok sc_House_state_set (fun vs H Q E h => ?_) (fun cdv A' outer s H vs Q E hr h => ?_)⟩
  · obtain ⟨p, pl, t, l, rfl, hh, hw, hl, hlen, k⟩ := h
    rfl
  obtain ⟨p, pl, t, l, rfl, hh, hw, hl, hlen, k⟩ := h
  refine ⟨_, (pss_cons (ps_if (pt_not (pt_val (pe_callB (cr_allK (K := K) rfl rfl) (by rfl) T.b_all (by decide +kernel) (pa_cons (pe_lc (own := [("state", 2)]) rfl sc_House_state_set.nd (pi_listK (K := K) rfl (pv 1)) (blkOk_by (N := N_House_state_set) (sc := defScope (inClass (top 79) 8)) (by decide +kernel)) (fun _ _ _ _ _ => (pg_name (i := 2) sc_House_state_set.nd rfl (by first | exact Or.inl rfl | exact Or.inr rfl))) (fun _ _ _ _ _ => pts_nil) (fun _ _ _ _ _ => (pe_call G_are_there (hr.mono (by decide)) rfl g_are_there k_are_there b_are_there .nil pass0 (pa_cons (pe_fldK (K := K) rfl (pe_fldK (K := K) rfl (pv 0) rfl) rfl) (pa_cons (pv 2) pa_nil))))) pa_nil)))) (pss_one (ps_ret (pe_lst (pa_cons (pe_un un_neg pe_int) pa_nil)))) pss_nil) (pss_one (ps_ret (pe_call G_set_check (hr.mono (by decide)) rfl g_set_check k_set_check b_set_check .nil pass0 (pa_cons (pe_fldK (K := K) rfl (pv 0) rfl) (pa_cons (pv 1) pa_nil)))))), ?_⟩
  obtain ⟨pt, ht, hev⟩ := ev_task T (ta := tVar 0) (σ := []) hh
  unfold taskOf answerOf at k
  rw [set_step] at k
  refine q_when (b := !(l.all fun s => decide (s < 2 ^ t.facts))) (et_not (et_is (et_B (ev_all (bs := l.map fun s => decide (s < 2 ^ t.facts)) (el_map (by rw [List.length_map, List.length_map, List.length_map]) (ev_var rfl) hl (by rw [List.length_map]; omega) (fun _ => rfl) (fun i x y H1 e1 hx hy => ?_)))) (by rw [List.all_map]; rfl))) (fun hb H1 e1 => ?_) (fun hb H1 e1 => ?_)
  · obtain ⟨m, hm, rfl⟩ := nat_at hx
    rw [List.getElem?_map, List.getElem?_map, hm] at hy
    cases (Option.some.inj hy)
    exact ev_call (ea_cons (ev_facts T (ht.mono e1) ((hev _ _ (ev_var rfl)).mono e1)) (ea_cons (ev_var rfl) ea_nil)) spv_there
  · have hb : (l.all fun s => decide (s < 2 ^ t.facts)) = false := by simpa using hb
    rw [if_neg (by rw [hb]; decide)] at k
    have hk : MPost A H p t [-1] Q := k
    exact s_retL (xs := [.int (-1)]) (el_lst (ea_cons (ev_un ev_c ru_neg) ea_nil) (by show 1 ≤ 100000; decide)) (fun q H2 hq e2 h2 => hk.same hh (e1.trans e2) (fresh_back e1 hq) h2)
  · have hb : (l.all fun s => decide (s < 2 ^ t.facts)) = true := by
      rw [Bool.not_eq_false'] at hb
      exact hb
    rw [if_pos hb] at k
    have hk : MPost A H p t (Pn18Neutral.out (Pn18.told (Pn18.checkSet t l))) Q := k
    rw [told_fault _ (set_ne t l)] at hk
    exact s_retL (xs := (faultL (Pn18.checkSet t l)).map natV) (el_call (ea_cons ((hev _ _ (ev_var rfl)).mono e1) (ea_cons (ev_var rfl) ea_nil)) (spL_of fun H2 e2 => ⟨pt, t, pl, l, rfl, ht.mono (e1.trans e2), hw, e2 _ _ (e1 _ _ hl), hlen, rfl⟩)) (fun q H2 hq e2 h2 => hk.same hh (e1.trans e2) (fresh_back e1 hq) (by rw [nats_int]; exact h2))
def sp_House_cuts (_ : PySem.W.Frag) (A : Ad) : Sp := fun vs H Q _ => ∃ (p pl : Addr) (t : Pn.Task) (c : Nat) (ys : List V) (rs : List (List Nat)), vs = [.ref p, natV c, .ref pl] ∧ HouseAt A H p t ∧ WF t ∧ H pl = some (.lst ys) ∧ ListsAt H ys (rs.map fun r => r.map natV) ∧ (∀ r ∈ rs, r.length ≤ 1000) ∧ rs.length ≤ 1000 ∧ MPost A H p (taskOf t (.cuts c rs)) (answerOf t (.cuts c rs)) Q
theorem cuts_stepE (t : Pn.Task) (c : Nat) (rs : List (List Nat)) : Pn18.step ⟨t⟩ (.cuts c rs) = if rs.all (isCutB t.acts.length) = true then (⟨t⟩, Pn18.told (Pn18.checkCuts t c (rs.map asCut))) else (⟨t⟩, Pn18.ok (-1)) := by
  show (match Pn18.cuts? t.acts.length rs with
    | none => ((⟨t⟩ : Pn18.House), Pn18.ok (-1))
    | some x => (⟨t⟩, Pn18.told (Pn18.checkCuts t c x))) = _
  rw [cuts_some]
  by_cases q : rs.all (isCutB t.acts.length) = true
  · rw [if_pos q, if_pos q]
  · rw [if_neg q, if_neg q]
theorem d_House_cuts (T : Top K mg A) (F : Fun K "cuts" "House.cuts" s_House_cuts f fd) (hM : Meth K A.house "cuts" f) (D_cuts_check : Def P w K mg base "cuts_check" 2 ["task", "claim", "cuts"] (sp_cuts_check K A)) (D_is_cut : Def P w K mg base "is_cut" 2 ["cut", "acts"] (sp_is_cut K A)) : DefM P w K mg base A.house "cuts" 3 ["self", "claim", "told"] (sp_House_cuts K A) := by
  obtain ⟨f_cuts_check, fd_cuts_check, g_cuts_check, k_cuts_check, b_cuts_check, G_cuts_check⟩ := D_cuts_check
  obtain ⟨f_is_cut, fd_is_cut, g_is_cut, k_is_cut, b_is_cut, G_is_cut⟩ := D_is_cut
  refine ⟨f, fd, hM, F.binds (fun _ _ _ _ _ _ us hl => match us, hl with | [_, _, _], _ => rfl), F.ok sc_House_cuts (fun vs H Q E h => ?_) (fun cdv A' outer s H vs Q E hr h => ?_)⟩
  · obtain ⟨p, pl, t, c, ys, rs, rfl, hh, hw, hl, hls, hrs, hlen, k⟩ := h
    rfl
  obtain ⟨p, pl, t, c, ys, rs, rfl, hh, hw, hl, hls, hrs, hlen, k⟩ := h
  refine ⟨_, (pss_cons (ps_if (pt_not (pt_val (pe_callB (cr_allK (K := K) rfl rfl) (by rfl) T.b_all (by decide +kernel) (pa_cons (pe_lc (own := [("cut", 3)]) rfl sc_House_cuts.nd (pi_listK (K := K) rfl (pv 2)) (blkOk_by (N := N_House_cuts) (sc := defScope (inClass (top 79) 7)) (by decide +kernel)) (fun _ _ _ _ _ => (pg_name (i := 3) sc_House_cuts.nd rfl (by first | exact Or.inl rfl | exact Or.inr rfl))) (fun _ _ _ _ _ => pts_nil) (fun _ _ _ _ _ => (pe_call G_is_cut (hr.mono (by decide)) rfl g_is_cut k_is_cut b_is_cut .nil pass0 (pa_cons (pv 3) (pa_cons (pe_fldK (K := K) rfl (pe_fldK (K := K) rfl (pv 0) rfl) rfl) pa_nil))))) pa_nil)))) (pss_one (ps_ret (pe_lst (pa_cons (pe_un un_neg pe_int) pa_nil)))) pss_nil) (pss_one (ps_ret (pe_call G_cuts_check (hr.mono (by decide)) rfl g_cuts_check k_cuts_check b_cuts_check .nil pass0 (pa_cons (pe_fldK (K := K) rfl (pv 0) rfl) (pa_cons (pv 1) (pa_cons (pv 2) pa_nil))))))), ?_⟩
  obtain ⟨pt, ht, hev⟩ := ev_task T (ta := tVar 0) (σ := []) hh
  obtain ⟨la, as, h2, h3, h4, h5⟩ := acts_at T ht
  have hyl : ys.length = rs.length := by
    have := hls.1
    rw [List.length_map] at this
    exact this
  unfold taskOf answerOf at k
  rw [cuts_stepE] at k
  refine q_when (b := !(rs.all (isCutB t.acts.length))) (et_not (et_is (et_B (ev_all (bs := rs.map (isCutB t.acts.length)) (el_map (by rw [List.length_map, List.length_map, hyl]) (ev_var rfl) hl (by omega) (fun _ => rfl) (fun i x y H1 e1 hx hy => ?_)))) (by rw [List.all_map]; rfl))) (fun hb H1 e1 => ?_) (fun hb H1 e1 => ?_)
  · obtain ⟨q, r, rfl, hr2, hq⟩ := lists_at hls hx
    rw [List.getElem?_map, List.getElem?_map, hr2] at hy
    cases (Option.some.inj hy)
    have hal : (as.map V.ref).length = t.acts.length := by rw [List.length_map, h3]
    rw [← hal]
    exact ev_call (ea_cons (ev_var rfl) (ea_cons ((h4 _ _ (hev _ _ (ev_var rfl))).mono e1) ea_nil)) (spV_of fun H2 e2 => ⟨q, r, la, as.map V.ref, rfl, e2 _ _ (e1 _ _ hq), hrs r (List.mem_of_getElem? hr2), e2 _ _ (e1 _ _ h2), rfl⟩)
  · have hb : rs.all (isCutB t.acts.length) = false := by simpa using hb
    rw [if_neg (by rw [hb]; decide)] at k
    have hk : MPost A H p t [-1] Q := k
    exact s_retL (xs := [.int (-1)]) (el_lst (ea_cons (ev_un ev_c ru_neg) ea_nil) (by show 1 ≤ 100000; decide)) (fun q H2 hq e2 h2 => hk.same hh (e1.trans e2) (fresh_back e1 hq) h2)
  · have hb : rs.all (isCutB t.acts.length) = true := by
      rw [Bool.not_eq_false'] at hb
      exact hb
    rw [if_pos hb] at k
    have hk : MPost A H p t (Pn18Neutral.out (Pn18.told (Pn18.checkCuts t c (rs.map asCut)))) Q := k
    rw [told_fault _ (cuts_ne t c _)] at hk
    have hne : ∀ r ∈ rs, 0 < r.length := fun r hr2 => by
      have := List.all_eq_true.mp hb r hr2
      unfold isCutB at this
      exact of_decide_eq_true (Bool.and_eq_true_iff.mp this).1
    exact s_retL (xs := (faultL (Pn18.checkCuts t c (rs.map asCut))).map natV) (el_call (ea_cons ((hev _ _ (ev_var rfl)).mono e1) (ea_cons (ev_var rfl) (ea_cons (ev_var rfl) ea_nil))) (spL_of fun H2 e2 => ⟨pt, t, c, pl, ys, rs, rfl, ht.mono (e1.trans e2), hw, e2 _ _ (e1 _ _ hl), hls.ex (e1.trans e2), hne, hlen, rfl⟩)) (fun q H2 hq e2 h2 => hk.same hh (e1.trans e2) (fresh_back e1 hq) (by rw [nats_int]; exact h2))
def sp_House_clauses (_ : PySem.W.Frag) (A : Ad) : Sp := fun vs H Q _ => ∃ (p pl : Addr) (t : Pn.Task) (l : List Nat), vs = [.ref p, .ref pl] ∧ HouseAt A H p t ∧ WF t ∧ H pl = some (.lst (l.map natV)) ∧ l.length ≤ 20 ∧ MPost A H p (taskOf t (.clauses l)) (answerOf t (.clauses l)) Q
theorem clauses_step (t : Pn.Task) (l : List Nat) : Pn18.step ⟨t⟩ (.clauses l) = if l.length % 2 = 0 ∧ (l.all fun k => decide (k < 2 * t.facts)) = true then (⟨t⟩, Pn18.told (Pn18.checkClauses t (pairUp l))) else (⟨t⟩, Pn18.ok (-1)) := by
  show (match Pn02.pairs t.facts l with
    | none => ((⟨t⟩ : Pn18.House), Pn18.ok (-1))
    | some x => (⟨t⟩, Pn18.told (Pn18.checkClauses t x))) = _
  rw [pairs_some]
  by_cases q : l.length % 2 = 0 ∧ (l.all fun k => decide (k < 2 * t.facts)) = true
  · rw [if_pos q, if_pos q]
  · rw [if_neg q, if_neg q]
theorem ev_mod2 {σ : L2.St} {H : Hp} {ta : TE} {n : Nat} (ha : Ev ta σ H (natV n)) : Ev (tOp (rI (fun _ j => j ≠ 0) fun i j => .int (i.fmod j)) ta (tC (.int 2))) σ H (natV (n % 2)) := by
  refine ev_is (ev_op ha ev_c (rv_I (by decide))) ?_
  show V.int ((n : Int).fmod 2) = _
  rw [Int.fmod_eq_emod_of_nonneg _ (by decide)]
  rfl
theorem d_House_clauses (T : Top K mg A) (F : Fun K "clauses" "House.clauses" s_House_clauses f fd) (hM : Meth K A.house "clauses" f) (D_clauses_check : Def P w K mg base "clauses_check" 4 ["task", "clauses"] (sp_clauses_check K A)) (D_are_below : Def P w K mg base "are_below" 1 ["end", "numbers"] (sp_are_below K A)) : DefM P w K mg base A.house "clauses" 5 ["self", "literals"] (sp_House_clauses K A) := by
  obtain ⟨f_clauses_check, fd_clauses_check, g_clauses_check, k_clauses_check, b_clauses_check, G_clauses_check⟩ := D_clauses_check
  obtain ⟨f_are_below, fd_are_below, g_are_below, k_are_below, b_are_below, G_are_below⟩ := D_are_below
  refine ⟨f, fd, hM, F.binds (fun _ _ _ _ _ _ us hl => match us, hl with | [_, _], _ => rfl), F.ok sc_House_clauses (fun vs H Q E h => ?_) (fun cdv A' outer s H vs Q E hr h => ?_)⟩
  · obtain ⟨p, pl, t, l, rfl, hh, hw, hl, hlen, k⟩ := h
    rfl
  obtain ⟨p, pl, t, l, rfl, hh, hw, hl, hlen, k⟩ := h
  refine ⟨_, (pss_cons (ps_if (PW.pt (pw_or (pt_cmpR op_ne (pe_op op_modN (pe_callB (call_lenK (K := K) rfl) (by rfl) T.b_len (by decide +kernel) (pa_cons (pv 1) pa_nil)) pe_int) pe_int (nomark _)) (pw_or1 (pt_not (pt_val (pe_call G_are_below (hr.mono (by decide)) rfl g_are_below k_are_below b_are_below .nil pass0 (pa_cons (pe_op op_mul pe_int (pe_fldK (K := K) rfl (pe_fldK (K := K) rfl (pv 0) rfl) rfl)) (pa_cons (pv 1) pa_nil)))))))) (pss_one (ps_ret (pe_lst (pa_cons (pe_un un_neg pe_int) pa_nil)))) pss_nil) (pss_cons (ps_setLc (i := 2) (own := [("at", 3)]) rfl sc_House_clauses.nd rfl rfl (sw_true rfl rfl rfl (by decide +kernel)) (pi_range3 rfl T.b_range (pa_cons pe_int (pa_cons (pe_callB (call_lenK (K := K) rfl) (by rfl) T.b_len (by decide +kernel) (pa_cons (pv 1) pa_nil)) (pa_cons pe_int pa_nil)))) (blkOk_by (N := N_House_clauses) (sc := defScope (inClass (top 79) 9)) (by decide +kernel)) (fun _ _ _ _ _ => (pg_name (i := 3) sc_House_clauses.nd rfl (by first | exact Or.inl rfl | exact Or.inr rfl))) (fun _ _ _ _ _ => pts_nil) (fun _ _ _ _ _ => (pe_tup (pa_cons (pe_ix (ix_listK (K := K) rfl) (pv 1) (pv 3) (fun _ _ => rfl)) (pa_cons (pe_ix (ix_listK (K := K) rfl) (pv 1) (pe_op op_add (pv 3) pe_int) (fun _ _ => rfl)) pa_nil))))) (pss_one (ps_ret (pe_call G_clauses_check (hr.mono (by decide)) rfl g_clauses_check k_clauses_check b_clauses_check .nil pass0 (pa_cons (pe_fldK (K := K) rfl (pv 0) rfl) (pa_cons (pv 2) pa_nil))))))), ?_⟩
  obtain ⟨pt, ht, hev⟩ := ev_task T (ta := tVar 0) (σ := []) hh
  have hf4 := hw.f4
  unfold taskOf answerOf at k
  rw [clauses_step] at k
  refine q_when (b := !(l.length % 2 == 0) || !(l.all fun k => decide (k < 2 * t.facts))) (et_or (et_test (ev_neN (a := l.length % 2) (b := 0) (ev_mod2 (ev_lenN (ev_var rfl) hl (List.length_map _))) ev_c)) (fun _ => et_not (et_B (ev_call (ea_cons (ev_dbl (n := t.facts) (by omega) (ev_facts T ht (hev _ _ (ev_var rfl)))) (ea_cons (ev_var rfl) ea_nil)) (spV_of fun H1 e1 => ⟨2 * t.facts, pl, l, rfl, e1 _ _ hl, by omega, rfl⟩))))) (fun hb H1 e1 => ?_) (fun hb H1 e1 => ?_)
  · rw [if_neg (fun z => by
      rw [z.1, z.2] at hb
      cases hb)] at k
    have hk : MPost A H p t [-1] Q := k
    exact s_retL (xs := [.int (-1)]) (el_lst (ea_cons (ev_un ev_c ru_neg) ea_nil) (by show 1 ≤ 100000; decide)) (fun q H2 hq e2 h2 => hk.same hh (e1.trans e2) (fresh_back e1 hq) h2)
  obtain ⟨hb1, hb2⟩ := Bool.or_eq_false_iff.mp hb
  have hev2 : l.length % 2 = 0 := by
    rw [Bool.not_eq_false'] at hb1
    exact beq_iff_eq.mp hb1
  have hall : (l.all fun k => decide (k < 2 * t.facts)) = true := by
    rw [Bool.not_eq_false'] at hb2
    exact hb2
  rw [if_pos ⟨hev2, hall⟩] at k
  have hk : MPost A H p t (Pn18Neutral.out (Pn18.told (Pn18.checkClauses t (pairUp l)))) Q := k
  rw [told_fault _ (checkClauses_ne t _)] at hk
  have hln : (l.length : Int) = ((2 * (l.length / 2) : Nat) : Int) := by omega
  refine q_asgP (Y := fun v H2 => ∃ pr, v = .ref pr ∧ RowAt H2 pr (pairUp l)) (EvP.imp (ep_tupsC (lo := 0) (hi := (l.length : Int)) (c := 2) (n := l.length / 2) (fun i => [natV (l.getD (2 * i) 0), natV (l.getD (2 * i + 1) 0)]) (ea_cons ev_c (ea_cons (ev_lenN (ev_var rfl) (e1 _ _ hl) (List.length_map _)) (ea_cons ev_c ea_nil))) (by rw [hln]; exact rg2 _ (by omega)) (by omega) (fun _ => rfl) (fun i H2 e2 hi => ?_)) (fun v H2 ⟨pr, ys, hv, h3, h4, h5⟩ => ⟨pr, hv, ys, h3, by rw [h4, pairUp_len], fun i c hc => ?_⟩)) (fun v H2 e2 ⟨pr, hv, hrow⟩ => ?_)
  · have hat : V.int (0 + (i : Int) * 2) = natV (2 * i) := by
      unfold natV
      congr 1
      omega
    have hl2 := e2 _ _ (e1 _ _ hl)
    rw [hat]
    exact eu_tup (ea_cons (ev_ixN (i := 2 * i) (ev_var rfl) (ev_var rfl) hl2 (nat_get (by omega))) (ea_cons (ev_ixN (i := 2 * i + 1) (ev_var rfl) (ev_addN (b := 1) (ev_var rfl) ev_c) hl2 (nat_get (by omega))) ea_nil)) (by show 2 ≤ 100000; decide)
  · have hi : i < l.length / 2 := by
      rw [← pairUp_len]
      exact (List.getElem?_eq_some_iff.mp hc).1
    obtain ⟨q, g1, g2⟩ := h5 i hi
    obtain ⟨c1, c2⟩ := pairUp_get l i c hc
    rw [getD_at c1, getD_at c2] at g2
    exact ⟨.ref q, g1, q, rfl, g2⟩
  subst hv
  have e02 := e1.trans e2
  exact s_retL (xs := (faultL (Pn18.checkClauses t (pairUp l))).map natV) (el_call (ea_cons ((hev _ _ (ev_var rfl)).mono e02) (ea_cons (ev_var rfl) ea_nil)) (spL_of fun H3 e3 => ⟨pt, t, pr, pairUp l, rfl, ht.mono (e02.trans e3), hw, hrow.ex e3, by rw [pairUp_len]; omega, rfl⟩)) (fun q H3 hq e3 h3 => hk.same hh (e02.trans e3) (fresh_back e02 hq) (by rw [nats_int]; exact h3))
end
end PC

set_option Elab.async false
set_option linter.all false
set_option maxRecDepth 100000
set_option maxHeartbeats 2000000
namespace PC
open PySem PySem.Spec PyProof.Rows L2 Evl
/-! ### a call, as it is read and as it is meant -/
inductive Is : C → Pn18.Call → Prop
  | begins (n s g : Nat) : Is ⟨0, [n, s, g], []⟩ (.begins n s g)
  | act {r : List Nat} (h : r.length ≤ 20) : Is ⟨1, [], [r]⟩ (.act r)
  | from_ (s g : Nat) : Is ⟨2, [s, g], []⟩ (.from_ s g)
  | own (k : Nat) : Is ⟨3, [k], []⟩ (.own k)
  | plan (c : Nat) {l : List Nat} (h : l.length ≤ 20) : Is ⟨4, [c], [l]⟩ (.plan c l)
  | table (c : Nat) {l : List Nat} (h : l.length ≤ 20) : Is ⟨5, [c], [l]⟩ (.table c l)
  | cuts (c : Nat) {l : List (List Nat)} (h : l.length ≤ 10) (g : ∀ r ∈ l, r.length ≤ 20) : Is ⟨6, [c], l⟩ (.cuts c l)
  | set {l : List Nat} (h : l.length ≤ 20) : Is ⟨7, [], [l]⟩ (.set l)
  | clauses {l : List Nat} (h : l.length ≤ 20) : Is ⟨8, [], [l]⟩ (.clauses l)
  | pair {l t : List Nat} (h : l.length ≤ 20) (g : t.length ≤ 20) : Is ⟨9, [], [l, t]⟩ (.pair l t)
def toC : List (List Int) → C
  | (p :: ns) :: xs => ⟨p.toNat, ns.map Int.toNat, xs.map fun r => r.map Int.toNat⟩
  | _ => ⟨0, [], []⟩
theorem row_len {r : List Int} {n : Nat} (h : Pn18Neutral.row32 r n = true) : (r.map Int.toNat).length ≤ n := by
  unfold Pn18Neutral.row32 at h
  rw [List.length_map]
  exact of_decide_eq_true (Bool.and_eq_true_iff.mp h).1
theorem is_of {c : List (List Int)} (h : Pn18Neutral.asked1 c = true) : ∃ x, Pn18Neutral.callOf c = some x ∧ Is (toC c) x := by
  unfold Pn18Neutral.asked1 at h
  split at h
  · exact ⟨_, rfl, .begins ..⟩
  · exact ⟨_, rfl, .act (row_len h)⟩
  · exact ⟨_, rfl, .from_ ..⟩
  · exact ⟨_, rfl, .own ..⟩
  · exact ⟨_, rfl, .plan _ (row_len (Bool.and_eq_true_iff.mp h).2)⟩
  · exact ⟨_, rfl, .table _ (row_len (Bool.and_eq_true_iff.mp h).2)⟩
  · rename_i c l
    obtain ⟨_, h⟩ := Bool.and_eq_true_iff.mp h
    obtain ⟨h1, h2⟩ := Bool.and_eq_true_iff.mp h
    have h1 := of_decide_eq_true h1
    refine ⟨_, rfl, .cuts _ (by rw [List.length_map]; exact h1) fun r hr => ?_⟩
    obtain ⟨u, hu, rfl⟩ := List.mem_map.mp hr
    exact row_len (List.all_eq_true.mp h2 u hu)
  · exact ⟨_, rfl, .set (row_len h)⟩
  · exact ⟨_, rfl, .clauses (row_len h)⟩
  · exact ⟨_, rfl, .pair (row_len (Bool.and_eq_true_iff.mp h).1) (row_len (Bool.and_eq_true_iff.mp h).2)⟩
  · cases h
theorem flat_rows : ∀ xs : List (List Int), (PyFlat.putRows xs).map Int.toNat = flatRows (xs.map fun r => r.map Int.toNat)
  | [] => rfl
  | r :: l => by
    show (((r.length : Int) :: r) ++ PyFlat.putRows l).map Int.toNat = (r.map Int.toNat).length :: (r.map Int.toNat ++ flatRows (l.map fun r => r.map Int.toNat))
    rw [List.map_append, flat_rows l, List.map_cons, List.length_map, Int.toNat_natCast]
    rfl
theorem flat_one {c : List (List Int)} (h : PyWide.okCall c) : (PyWide.put1 c).map Int.toNat = flatC (toC c) := by
  obtain ⟨p, ns, xs, rfl⟩ := h
  show (p :: (((ns.length : Int) :: ns) ++ ((xs.length : Int) :: PyFlat.putRows xs))).map Int.toNat = p.toNat :: (ns.map Int.toNat).length :: (ns.map Int.toNat ++ (xs.map fun r => r.map Int.toNat).length :: flatRows (xs.map fun r => r.map Int.toNat))
  rw [List.map_cons, List.map_append, List.map_cons, List.map_cons, flat_rows, List.length_map, List.length_map, Int.toNat_natCast, Int.toNat_natCast]
  rfl
theorem flat_all : ∀ {cs : List (List (List Int))}, (∀ c ∈ cs, PyWide.okCall c) → (PyWide.put cs).map Int.toNat = flatCs (cs.map toC)
  | [], _ => rfl
  | c :: cs, h => by
    show (PyWide.put1 c ++ PyWide.put cs).map Int.toNat = flatC (toC c) ++ flatCs (cs.map toC)
    rw [List.map_append, flat_one (h c (List.mem_cons_self ..)), flat_all fun d hd => h d (List.mem_cons_of_mem _ hd)]
/-- all answers, one behind another -/
def runL : Pn.Task → List Pn18.Call → List Int
  | _, [] => []
  | t, x :: l => ((answerOf t x).length : Int) :: (answerOf t x ++ runL (taskOf t x) l)
theorem run_eq : ∀ {cs : List (List (List Int))} {xs : List Pn18.Call} (t : Pn.Task), F2 (fun c x => Pn18Neutral.callOf c = some x) cs xs →
    PyFlat.told (PyFlat.played Pn18Neutral.step ⟨t⟩ cs) = runL t xs ∧ (runL t xs).length = cs.length + Pn18Neutral.many ⟨t⟩ cs
  | _, _, t, .nil => ⟨rfl, rfl⟩
  | c :: cs, x :: xs, t, .cons h r => by
    obtain ⟨e1, e2⟩ := run_eq (taskOf t x) r
    have hs : Pn18Neutral.step ⟨t⟩ c = (⟨taskOf t x⟩, answerOf t x) := by
      unfold Pn18Neutral.step
      rw [h]
      rfl
    constructor
    · show PyFlat.told ((Pn18Neutral.step ⟨t⟩ c).2 :: PyFlat.played Pn18Neutral.step (Pn18Neutral.step ⟨t⟩ c).1 cs) = _
      rw [hs]
      show (((answerOf t x).length : Int) :: answerOf t x) ++ PyFlat.told (PyFlat.played Pn18Neutral.step ⟨taskOf t x⟩ cs) = _
      rw [e1]
      rfl
    · show (runL t (x :: xs)).length = (cs.length + 1) + ((Pn18Neutral.step ⟨t⟩ c).2.length + Pn18Neutral.many (Pn18Neutral.step ⟨t⟩ c).1 cs)
      rw [hs]
      show ((answerOf t x ++ runL (taskOf t x) xs).length + 1) = _
      rw [List.length_append, e2]
      show _ = cs.length + 1 + ((answerOf t x).length + Pn18Neutral.many ⟨taskOf t x⟩ cs)
      omega
theorem f2_calls : ∀ {cs : List (List (List Int))}, (∀ c ∈ cs, Pn18Neutral.asked1 c = true) → ∃ xs, F2 (fun c x => Pn18Neutral.callOf c = some x) cs xs ∧ F2 Is (cs.map toC) xs
  | [], _ => ⟨[], .nil, .nil⟩
  | c :: cs, h => by
    obtain ⟨x, h1, h2⟩ := is_of (h c (List.mem_cons_self ..))
    obtain ⟨xs, g1, g2⟩ := f2_calls fun d hd => h d (List.mem_cons_of_mem _ hd)
    exact ⟨x :: xs, .cons h1 g1, .cons h2 g2⟩
theorem asked_calls {ns : List Int} (h : PyPn18.answers_asked ns = true) : ∃ (cs : List C) (xs : List Pn18.Call), ns.map Int.toNat = flatCs cs ∧ F2 Is cs xs ∧ PyPn18.answers ns = runL Pn18.init.task xs ∧ (runL Pn18.init.task xs).length ≤ 1000060 := by
  unfold PyPn18.answers_asked at h
  cases q : PyPn18.calls ns with
  | none => rw [q] at h; cases h
  | some cs =>
    rw [q] at h
    have h : (!cs.isEmpty && cs.all PyPn18.fits && PyFlat.atMost 60 cs && Pn18Neutral.asked cs && PyFlat.short 10000000 (PyPn18.answers ns)) = true := h
    simp only [Bool.and_eq_true] at h
    obtain ⟨⟨⟨⟨_, _⟩, h60⟩, hask⟩, _⟩ := h
    have h60 : cs.length ≤ 60 := of_decide_eq_true h60
    unfold Pn18Neutral.asked at hask
    simp only [Bool.and_eq_true, decide_eq_true_eq] at hask
    obtain ⟨hall, _, ⟨_, _⟩, hmany⟩ := hask
    obtain ⟨hput, hok⟩ := PyWide.put_calls ns.length ns cs q
    obtain ⟨xs, g1, g2⟩ := f2_calls (List.all_eq_true.mp hall)
    obtain ⟨e1, e2⟩ := run_eq Pn18.init.task g1
    refine ⟨cs.map toC, xs, ?_, g2, ?_, ?_⟩
    · rw [← flat_all hok, ← hput]
    · unfold PyPn18.answers
      rw [q]
      exact e1
    · rw [e2]
      have : Pn18Neutral.many Pn18Neutral.start cs ≤ 1000000 := hmany
      have e3 : Pn18Neutral.many (⟨Pn18.init.task⟩ : Pn18.House) cs = Pn18Neutral.many Pn18Neutral.start cs := rfl
      rw [e3]
      omega
theorem ints_nats {ns : List Int} (h : ∀ x ∈ ns, 0 ≤ x) : ns.map V.int = (ns.map Int.toNat).map natV := by
  rw [List.map_map]
  refine List.map_congr_left fun x hx => ?_
  have := h x hx
  show V.int x = V.int ((x.toNat : Nat) : Int)
  congr 1
  omega
end PC

set_option Elab.async false
set_option linter.all false
set_option maxRecDepth 100000
set_option maxHeartbeats 2000000
namespace PC
open PySem PySem.Spec PyProof.Rows L2 Evl
section
variable {P : Program} {w : World} {K : PySem.W.Frag} {mg : Str → Option Value} {base : Heap} {A : Ad} {f : Addr} {fd : FuncData}
/-! ### one call answered -/
abbrev s_answer : Stmt := top 80
abbrev N_answer : List Str := ["house", "call"]
theorem sc_answer : FnScope N_answer ["house", "call"] (defScope s_answer) := ⟨rfl, rfl, rfl, by decide +kernel, rfl, by decide +kernel, by decide +kernel⟩
abbrev s_answers : Stmt := top 81
abbrev N_answers : List Str := ["calls", "house", "told", "call", "row"]
theorem sc_answers : FnScope N_answers ["calls"] (defScope s_answers) := ⟨rfl, rfl, rfl, by decide +kernel, rfl, by decide +kernel, by decide +kernel⟩
theorem MPost.mono {H H2 : Hp} {p : Addr} {t : Pn.Task} {a : List Int} {Q : VK} (k : MPost A H p t a Q) (e : Ex H H2) : MPost A H2 p t a Q := fun H' q h1 h2 h3 h4 => k H' q h1 h2 (fresh_back e h3) ((less_mono e).trans h4)
theorem house_no {pt : Addr} {m : Str} (h : (m == ("task" : Str)) = false) : (houseF pt).lookup m = none := by
  unfold houseF
  simp only [List.lookup, h]
/-- return house.m(..) -/
theorem s_meth {σ : L2.St} {H : Hp} {sp : Sp} {ta : TE} {tr : TA} {D : Ends} {vs : List V} {m : Str} {p : Addr} {t : Pn.Task} (hh : HouseAt A H p t) (ha : Ev ta σ H (.ref p)) (hv : EvA tr σ H vs) (hm : (m == ("task" : Str)) = false) (k : ∀ H1, Ex H H1 → sp (.ref p :: (vs ++ [])) H1 D.rt E0) : tRet (tMeth A.house m sp [] E0 ta tr) D σ H :=
  ha H (Ex.refl H) _ fun H1 e1 => by
    obtain ⟨dx, pt, hp, _⟩ := hh
    exact ⟨p, dx, houseF pt, rfl, e1 _ _ hp, house_no hm, hv H1 e1 _ fun H2 e2 => k H2 (e1.trans e2)⟩
def sp_answer (_ : PySem.W.Frag) (A : Ad) : Sp := fun vs H Q _ => ∃ (ph pc : Addr) (t : Pn.Task) (c : C) (x : Pn18.Call), vs = [.ref ph, .ref pc] ∧ HouseAt A H ph t ∧ WF t ∧ CallAt A H pc c ∧ Is c x ∧ MPost A H ph (taskOf t x) (answerOf t x) Q
theorem callF_number (v1 v2 v3 : V) : (callF v1 v2 v3).lookup ("number" : Str) = some v1 := lk_here
theorem callF_numbers (v1 v2 v3 : V) : (callF v1 v2 v3).lookup ("numbers" : Str) = some v2 := lk_past (by decide +kernel) lk_here
theorem callF_lists (v1 v2 v3 : V) : (callF v1 v2 v3).lookup ("lists" : Str) = some v3 := lk_past (by decide +kernel) (lk_past (by decide +kernel) lk_here)
theorem d_answer (T : Top K mg A) (F : Fun K "answer" "answer" s_answer f fd) (hf : mg "answer" = some (.ref f)) (D_pair : DefM P w K mg base A.house "pair" 5 ["self", "acts", "numbers"] (sp_House_pair K A)) (D_clauses : DefM P w K mg base A.house "clauses" 5 ["self", "literals"] (sp_House_clauses K A)) (D_state_set : DefM P w K mg base A.house "state_set" 3 ["self", "states"] (sp_House_state_set K A)) (D_cuts : DefM P w K mg base A.house "cuts" 3 ["self", "claim", "told"] (sp_House_cuts K A)) (D_table : DefM P w K mg base A.house "table" 4 ["self", "claim", "numbers"] (sp_House_table K A)) (D_plan : DefM P w K mg base A.house "plan" 3 ["self", "claim", "acts"] (sp_House_plan K A)) (D_own : DefM P w K mg base A.house "own" 8 ["self", "kind"] (sp_House_own K A)) (D_from_state : DefM P w K mg base A.house "from_state" 3 ["self", "so", "wanted"] (sp_House_from_state K A)) (D_act : DefM P w K mg base A.house "act" 3 ["self", "row"] (sp_House_act K A)) (D_begins : DefM P w K mg base A.house "begins" 3 ["self", "facts", "so", "wanted"] (sp_House_begins K A)) : Def P w K mg base "answer" 9 ["house", "call"] (sp_answer K A) := by
  obtain ⟨f_pair, fd_pair, m_pair, b_pair, G_pair⟩ := D_pair
  obtain ⟨f_clauses, fd_clauses, m_clauses, b_clauses, G_clauses⟩ := D_clauses
  obtain ⟨f_state_set, fd_state_set, m_state_set, b_state_set, G_state_set⟩ := D_state_set
  obtain ⟨f_cuts, fd_cuts, m_cuts, b_cuts, G_cuts⟩ := D_cuts
  obtain ⟨f_table, fd_table, m_table, b_table, G_table⟩ := D_table
  obtain ⟨f_plan, fd_plan, m_plan, b_plan, G_plan⟩ := D_plan
  obtain ⟨f_own, fd_own, m_own, b_own, G_own⟩ := D_own
  obtain ⟨f_from_state, fd_from_state, m_from_state, b_from_state, G_from_state⟩ := D_from_state
  obtain ⟨f_act, fd_act, m_act, b_act, G_act⟩ := D_act
  obtain ⟨f_begins, fd_begins, m_begins, b_begins, G_begins⟩ := D_begins
  refine ⟨f, fd, hf, F.kp, F.binds (fun _ _ _ _ _ _ us hl => match us, hl with | [_, _], _ => rfl), F.ok sc_answer (fun vs H Q E h => ?_) (fun cdv A' outer s H vs Q E hr h => ?_)⟩
  · obtain ⟨ph, pc, t, c, x, rfl, hh, hw, hc, hx, k⟩ := h
    rfl
  obtain ⟨ph, pc, t, c, x, rfl, hh, hw, hc, hx, k⟩ := h
  refine ⟨_, (pss_cons (ps_if (pt_cmpR op_eq (pe_fldK (K := K) rfl (pv 1) rfl) (pe_cst rfl T.c_BEGINS) (nomark _)) (pss_one (ps_ret (pe_meth (pv 0) T.cHouse m_begins G_begins (hr.mono (by decide)) b_begins .nil pass0 (pa_cons (pe_ix (ix_listK (K := K) rfl) (pe_fldK (K := K) rfl (pv 1) rfl) pe_int (fun _ _ => rfl)) (pa_cons (pe_ix (ix_listK (K := K) rfl) (pe_fldK (K := K) rfl (pv 1) rfl) pe_int (fun _ _ => rfl)) (pa_cons (pe_ix (ix_listK (K := K) rfl) (pe_fldK (K := K) rfl (pv 1) rfl) pe_int (fun _ _ => rfl)) pa_nil)))))) pss_nil) (pss_cons (ps_if (pt_cmpR op_eq (pe_fldK (K := K) rfl (pv 1) rfl) (pe_cst rfl T.c_ACT) (nomark _)) (pss_one (ps_ret (pe_meth (pv 0) T.cHouse m_act G_act (hr.mono (by decide)) b_act .nil pass0 (pa_cons (pe_ix (ix_listK (K := K) rfl) (pe_fldK (K := K) rfl (pv 1) rfl) pe_int (fun _ _ => rfl)) pa_nil)))) pss_nil) (pss_cons (ps_if (pt_cmpR op_eq (pe_fldK (K := K) rfl (pv 1) rfl) (pe_cst rfl T.c_FROM_STATE) (nomark _)) (pss_one (ps_ret (pe_meth (pv 0) T.cHouse m_from_state G_from_state (hr.mono (by decide)) b_from_state .nil pass0 (pa_cons (pe_ix (ix_listK (K := K) rfl) (pe_fldK (K := K) rfl (pv 1) rfl) pe_int (fun _ _ => rfl)) (pa_cons (pe_ix (ix_listK (K := K) rfl) (pe_fldK (K := K) rfl (pv 1) rfl) pe_int (fun _ _ => rfl)) pa_nil))))) pss_nil) (pss_cons (ps_if (pt_cmpR op_eq (pe_fldK (K := K) rfl (pv 1) rfl) (pe_cst rfl T.c_OWN) (nomark _)) (pss_one (ps_ret (pe_meth (pv 0) T.cHouse m_own G_own (hr.mono (by decide)) b_own .nil pass0 (pa_cons (pe_ix (ix_listK (K := K) rfl) (pe_fldK (K := K) rfl (pv 1) rfl) pe_int (fun _ _ => rfl)) pa_nil)))) pss_nil) (pss_cons (ps_if (pt_cmpR op_eq (pe_fldK (K := K) rfl (pv 1) rfl) (pe_cst rfl T.c_PLAN_house) (nomark _)) (pss_one (ps_ret (pe_meth (pv 0) T.cHouse m_plan G_plan (hr.mono (by decide)) b_plan .nil pass0 (pa_cons (pe_ix (ix_listK (K := K) rfl) (pe_fldK (K := K) rfl (pv 1) rfl) pe_int (fun _ _ => rfl)) (pa_cons (pe_ix (ix_listK (K := K) rfl) (pe_fldK (K := K) rfl (pv 1) rfl) pe_int (fun _ _ => rfl)) pa_nil))))) pss_nil) (pss_cons (ps_if (pt_cmpR op_eq (pe_fldK (K := K) rfl (pv 1) rfl) (pe_cst rfl T.c_TABLE_house) (nomark _)) (pss_one (ps_ret (pe_meth (pv 0) T.cHouse m_table G_table (hr.mono (by decide)) b_table .nil pass0 (pa_cons (pe_ix (ix_listK (K := K) rfl) (pe_fldK (K := K) rfl (pv 1) rfl) pe_int (fun _ _ => rfl)) (pa_cons (pe_ix (ix_listK (K := K) rfl) (pe_fldK (K := K) rfl (pv 1) rfl) pe_int (fun _ _ => rfl)) pa_nil))))) pss_nil) (pss_cons (ps_if (pt_cmpR op_eq (pe_fldK (K := K) rfl (pv 1) rfl) (pe_cst rfl T.c_CUTS_house) (nomark _)) (pss_one (ps_ret (pe_meth (pv 0) T.cHouse m_cuts G_cuts (hr.mono (by decide)) b_cuts .nil pass0 (pa_cons (pe_ix (ix_listK (K := K) rfl) (pe_fldK (K := K) rfl (pv 1) rfl) pe_int (fun _ _ => rfl)) (pa_cons (pe_fldK (K := K) rfl (pv 1) rfl) pa_nil))))) pss_nil) (pss_cons (ps_if (pt_cmpR op_eq (pe_fldK (K := K) rfl (pv 1) rfl) (pe_cst rfl T.c_SET) (nomark _)) (pss_one (ps_ret (pe_meth (pv 0) T.cHouse m_state_set G_state_set (hr.mono (by decide)) b_state_set .nil pass0 (pa_cons (pe_ix (ix_listK (K := K) rfl) (pe_fldK (K := K) rfl (pv 1) rfl) pe_int (fun _ _ => rfl)) pa_nil)))) pss_nil) (pss_cons (ps_if (pt_cmpR op_eq (pe_fldK (K := K) rfl (pv 1) rfl) (pe_cst rfl T.c_CLAUSES_house) (nomark _)) (pss_one (ps_ret (pe_meth (pv 0) T.cHouse m_clauses G_clauses (hr.mono (by decide)) b_clauses .nil pass0 (pa_cons (pe_ix (ix_listK (K := K) rfl) (pe_fldK (K := K) rfl (pv 1) rfl) pe_int (fun _ _ => rfl)) pa_nil)))) pss_nil) (pss_one (ps_ret (pe_meth (pv 0) T.cHouse m_pair G_pair (hr.mono (by decide)) b_pair .nil pass0 (pa_cons (pe_ix (ix_listK (K := K) rfl) (pe_fldK (K := K) rfl (pv 1) rfl) pe_int (fun _ _ => rfl)) (pa_cons (pe_ix (ix_listK (K := K) rfl) (pe_fldK (K := K) rfl (pv 1) rfl) pe_int (fun _ _ => rfl)) pa_nil)))))))))))))), ?_⟩
  obtain ⟨dx, ln, ll, ys, h1, hln, hl2, hls⟩ := hc.ex
  have hnum : ∀ {ta : TE} {σ : L2.St} {H1 : Hp}, Ex H H1 → Ev ta σ H1 (.ref pc) → Ev (tFld K ta "number") σ H1 (natV c.num) := fun e h => ev_fld h (e _ _ h1) T.cCall T.nNumber (callF_number _ _ _)
  have hns : ∀ {ta : TE} {σ : L2.St} {H1 : Hp}, Ex H H1 → Ev ta σ H1 (.ref pc) → Ev (tFld K ta "numbers") σ H1 (.ref ln) := fun e h => ev_fld h (e _ _ h1) T.cCall T.nNumbers (callF_numbers _ _ _)
  have hll : ∀ {ta : TE} {σ : L2.St} {H1 : Hp}, Ex H H1 → Ev ta σ H1 (.ref pc) → Ev (tFld K ta "lists") σ H1 (.ref ll) := fun e h => ev_fld h (e _ _ h1) T.cCall T.nLists (callF_lists _ _ _)
  clear hc h1
  cases hx with
  | begins n s g =>
    refine q_when (b := true) (et_is (et_test (ev_eqN (a := 0) (b := 0) (hnum (Ex.refl H) (ev_var rfl)) ev_c)) rfl) (fun _ G9 d9 => ?_) (fun z => by cases z)
    have eX : Ex H G9 := d9
    exact s_meth (hh.mono eX) (ev_var rfl) (ea_cons (ev_ixN (i := 0) (hns eX (ev_var rfl)) ev_c (eX _ _ hln) rfl) (ea_cons (ev_ixN (i := 1) (hns eX (ev_var rfl)) ev_c (eX _ _ hln) rfl) (ea_cons (ev_ixN (i := 2) (hns eX (ev_var rfl)) ev_c (eX _ _ hln) rfl) ea_nil))) (by decide +kernel) (fun G e9 => ⟨ph, t, n, s, g, rfl, hh.mono (eX.trans e9), k.mono (eX.trans e9)⟩)
  | act h =>
    obtain ⟨r0, q0, p0⟩ := hls.2 0 _ rfl
    refine q_when (b := false) (et_is (et_test (ev_eqN (a := 1) (b := 0) (hnum (Ex.refl H) (ev_var rfl)) ev_c)) rfl) (fun z => by cases z) (fun _ G0 d0 => ?_)
    have u0 : Ex H G0 := d0
    refine q_when (b := true) (et_is (et_test (ev_eqN (a := 1) (b := 1) (hnum u0 (ev_var rfl)) ev_c)) rfl) (fun _ G9 d9 => ?_) (fun z => by cases z)
    have eX : Ex H G9 := u0.trans d9
    exact s_meth (hh.mono eX) (ev_var rfl) (ea_cons (ev_ixN (i := 0) (hll eX (ev_var rfl)) ev_c (eX _ _ hl2) q0) ea_nil) (by decide +kernel) (fun G e9 => ⟨ph, r0, t, _, rfl, hh.mono (eX.trans e9), hw, e9 _ _ (eX _ _ p0), by omega, k.mono (eX.trans e9)⟩)
  | from_ s g =>
    refine q_when (b := false) (et_is (et_test (ev_eqN (a := 2) (b := 0) (hnum (Ex.refl H) (ev_var rfl)) ev_c)) rfl) (fun z => by cases z) (fun _ G0 d0 => ?_)
    have u0 : Ex H G0 := d0
    refine q_when (b := false) (et_is (et_test (ev_eqN (a := 2) (b := 1) (hnum u0 (ev_var rfl)) ev_c)) rfl) (fun z => by cases z) (fun _ G1 d1 => ?_)
    have u1 : Ex H G1 := u0.trans d1
    refine q_when (b := true) (et_is (et_test (ev_eqN (a := 2) (b := 2) (hnum u1 (ev_var rfl)) ev_c)) rfl) (fun _ G9 d9 => ?_) (fun z => by cases z)
    have eX : Ex H G9 := u1.trans d9
    exact s_meth (hh.mono eX) (ev_var rfl) (ea_cons (ev_ixN (i := 0) (hns eX (ev_var rfl)) ev_c (eX _ _ hln) rfl) (ea_cons (ev_ixN (i := 1) (hns eX (ev_var rfl)) ev_c (eX _ _ hln) rfl) ea_nil)) (by decide +kernel) (fun G e9 => ⟨ph, t, s, g, rfl, hh.mono (eX.trans e9), k.mono (eX.trans e9)⟩)
  | own n =>
    refine q_when (b := false) (et_is (et_test (ev_eqN (a := 3) (b := 0) (hnum (Ex.refl H) (ev_var rfl)) ev_c)) rfl) (fun z => by cases z) (fun _ G0 d0 => ?_)
    have u0 : Ex H G0 := d0
    refine q_when (b := false) (et_is (et_test (ev_eqN (a := 3) (b := 1) (hnum u0 (ev_var rfl)) ev_c)) rfl) (fun z => by cases z) (fun _ G1 d1 => ?_)
    have u1 : Ex H G1 := u0.trans d1
    refine q_when (b := false) (et_is (et_test (ev_eqN (a := 3) (b := 2) (hnum u1 (ev_var rfl)) ev_c)) rfl) (fun z => by cases z) (fun _ G2 d2 => ?_)
    have u2 : Ex H G2 := u1.trans d2
    refine q_when (b := true) (et_is (et_test (ev_eqN (a := 3) (b := 3) (hnum u2 (ev_var rfl)) ev_c)) rfl) (fun _ G9 d9 => ?_) (fun z => by cases z)
    have eX : Ex H G9 := u2.trans d9
    exact s_meth (hh.mono eX) (ev_var rfl) (ea_cons (ev_ixN (i := 0) (hns eX (ev_var rfl)) ev_c (eX _ _ hln) rfl) ea_nil) (by decide +kernel) (fun G e9 => ⟨ph, t, n, rfl, hh.mono (eX.trans e9), hw, k.mono (eX.trans e9)⟩)
  | plan c h =>
    obtain ⟨r0, q0, p0⟩ := hls.2 0 _ rfl
    refine q_when (b := false) (et_is (et_test (ev_eqN (a := 4) (b := 0) (hnum (Ex.refl H) (ev_var rfl)) ev_c)) rfl) (fun z => by cases z) (fun _ G0 d0 => ?_)
    have u0 : Ex H G0 := d0
    refine q_when (b := false) (et_is (et_test (ev_eqN (a := 4) (b := 1) (hnum u0 (ev_var rfl)) ev_c)) rfl) (fun z => by cases z) (fun _ G1 d1 => ?_)
    have u1 : Ex H G1 := u0.trans d1
    refine q_when (b := false) (et_is (et_test (ev_eqN (a := 4) (b := 2) (hnum u1 (ev_var rfl)) ev_c)) rfl) (fun z => by cases z) (fun _ G2 d2 => ?_)
    have u2 : Ex H G2 := u1.trans d2
    refine q_when (b := false) (et_is (et_test (ev_eqN (a := 4) (b := 3) (hnum u2 (ev_var rfl)) ev_c)) rfl) (fun z => by cases z) (fun _ G3 d3 => ?_)
    have u3 : Ex H G3 := u2.trans d3
    refine q_when (b := true) (et_is (et_test (ev_eqN (a := 4) (b := 4) (hnum u3 (ev_var rfl)) ev_c)) rfl) (fun _ G9 d9 => ?_) (fun z => by cases z)
    have eX : Ex H G9 := u3.trans d9
    exact s_meth (hh.mono eX) (ev_var rfl) (ea_cons (ev_ixN (i := 0) (hns eX (ev_var rfl)) ev_c (eX _ _ hln) rfl) (ea_cons (ev_ixN (i := 0) (hll eX (ev_var rfl)) ev_c (eX _ _ hl2) q0) ea_nil)) (by decide +kernel) (fun G e9 => ⟨ph, r0, t, c, _, rfl, hh.mono (eX.trans e9), hw, e9 _ _ (eX _ _ p0), by omega, k.mono (eX.trans e9)⟩)
  | table c h =>
    obtain ⟨r0, q0, p0⟩ := hls.2 0 _ rfl
    refine q_when (b := false) (et_is (et_test (ev_eqN (a := 5) (b := 0) (hnum (Ex.refl H) (ev_var rfl)) ev_c)) rfl) (fun z => by cases z) (fun _ G0 d0 => ?_)
    have u0 : Ex H G0 := d0
    refine q_when (b := false) (et_is (et_test (ev_eqN (a := 5) (b := 1) (hnum u0 (ev_var rfl)) ev_c)) rfl) (fun z => by cases z) (fun _ G1 d1 => ?_)
    have u1 : Ex H G1 := u0.trans d1
    refine q_when (b := false) (et_is (et_test (ev_eqN (a := 5) (b := 2) (hnum u1 (ev_var rfl)) ev_c)) rfl) (fun z => by cases z) (fun _ G2 d2 => ?_)
    have u2 : Ex H G2 := u1.trans d2
    refine q_when (b := false) (et_is (et_test (ev_eqN (a := 5) (b := 3) (hnum u2 (ev_var rfl)) ev_c)) rfl) (fun z => by cases z) (fun _ G3 d3 => ?_)
    have u3 : Ex H G3 := u2.trans d3
    refine q_when (b := false) (et_is (et_test (ev_eqN (a := 5) (b := 4) (hnum u3 (ev_var rfl)) ev_c)) rfl) (fun z => by cases z) (fun _ G4 d4 => ?_)
    have u4 : Ex H G4 := u3.trans d4
    refine q_when (b := true) (et_is (et_test (ev_eqN (a := 5) (b := 5) (hnum u4 (ev_var rfl)) ev_c)) rfl) (fun _ G9 d9 => ?_) (fun z => by cases z)
    have eX : Ex H G9 := u4.trans d9
    exact s_meth (hh.mono eX) (ev_var rfl) (ea_cons (ev_ixN (i := 0) (hns eX (ev_var rfl)) ev_c (eX _ _ hln) rfl) (ea_cons (ev_ixN (i := 0) (hll eX (ev_var rfl)) ev_c (eX _ _ hl2) q0) ea_nil)) (by decide +kernel) (fun G e9 => ⟨ph, r0, t, c, _, rfl, hh.mono (eX.trans e9), hw, e9 _ _ (eX _ _ p0), by omega, k.mono (eX.trans e9)⟩)
  | @cuts c l h g =>
    refine q_when (b := false) (et_is (et_test (ev_eqN (a := 6) (b := 0) (hnum (Ex.refl H) (ev_var rfl)) ev_c)) rfl) (fun z => by cases z) (fun _ G0 d0 => ?_)
    have u0 : Ex H G0 := d0
    refine q_when (b := false) (et_is (et_test (ev_eqN (a := 6) (b := 1) (hnum u0 (ev_var rfl)) ev_c)) rfl) (fun z => by cases z) (fun _ G1 d1 => ?_)
    have u1 : Ex H G1 := u0.trans d1
    refine q_when (b := false) (et_is (et_test (ev_eqN (a := 6) (b := 2) (hnum u1 (ev_var rfl)) ev_c)) rfl) (fun z => by cases z) (fun _ G2 d2 => ?_)
    have u2 : Ex H G2 := u1.trans d2
    refine q_when (b := false) (et_is (et_test (ev_eqN (a := 6) (b := 3) (hnum u2 (ev_var rfl)) ev_c)) rfl) (fun z => by cases z) (fun _ G3 d3 => ?_)
    have u3 : Ex H G3 := u2.trans d3
    refine q_when (b := false) (et_is (et_test (ev_eqN (a := 6) (b := 4) (hnum u3 (ev_var rfl)) ev_c)) rfl) (fun z => by cases z) (fun _ G4 d4 => ?_)
    have u4 : Ex H G4 := u3.trans d4
    refine q_when (b := false) (et_is (et_test (ev_eqN (a := 6) (b := 5) (hnum u4 (ev_var rfl)) ev_c)) rfl) (fun z => by cases z) (fun _ G5 d5 => ?_)
    have u5 : Ex H G5 := u4.trans d5
    refine q_when (b := true) (et_is (et_test (ev_eqN (a := 6) (b := 6) (hnum u5 (ev_var rfl)) ev_c)) rfl) (fun _ G9 d9 => ?_) (fun z => by cases z)
    have eX : Ex H G9 := u5.trans d9
    exact s_meth (hh.mono eX) (ev_var rfl) (ea_cons (ev_ixN (i := 0) (hns eX (ev_var rfl)) ev_c (eX _ _ hln) rfl) (ea_cons (hll eX (ev_var rfl)) ea_nil)) (by decide +kernel) (fun G e9 => ⟨ph, ll, t, c, ys, l, rfl, hh.mono (eX.trans e9), hw, e9 _ _ (eX _ _ hl2), hls.ex (eX.trans e9), (fun r hr => by have := g r hr; omega), by omega, k.mono (eX.trans e9)⟩)
  | set h =>
    obtain ⟨r0, q0, p0⟩ := hls.2 0 _ rfl
    refine q_when (b := false) (et_is (et_test (ev_eqN (a := 7) (b := 0) (hnum (Ex.refl H) (ev_var rfl)) ev_c)) rfl) (fun z => by cases z) (fun _ G0 d0 => ?_)
    have u0 : Ex H G0 := d0
    refine q_when (b := false) (et_is (et_test (ev_eqN (a := 7) (b := 1) (hnum u0 (ev_var rfl)) ev_c)) rfl) (fun z => by cases z) (fun _ G1 d1 => ?_)
    have u1 : Ex H G1 := u0.trans d1
    refine q_when (b := false) (et_is (et_test (ev_eqN (a := 7) (b := 2) (hnum u1 (ev_var rfl)) ev_c)) rfl) (fun z => by cases z) (fun _ G2 d2 => ?_)
    have u2 : Ex H G2 := u1.trans d2
    refine q_when (b := false) (et_is (et_test (ev_eqN (a := 7) (b := 3) (hnum u2 (ev_var rfl)) ev_c)) rfl) (fun z => by cases z) (fun _ G3 d3 => ?_)
    have u3 : Ex H G3 := u2.trans d3
    refine q_when (b := false) (et_is (et_test (ev_eqN (a := 7) (b := 4) (hnum u3 (ev_var rfl)) ev_c)) rfl) (fun z => by cases z) (fun _ G4 d4 => ?_)
    have u4 : Ex H G4 := u3.trans d4
    refine q_when (b := false) (et_is (et_test (ev_eqN (a := 7) (b := 5) (hnum u4 (ev_var rfl)) ev_c)) rfl) (fun z => by cases z) (fun _ G5 d5 => ?_)
    have u5 : Ex H G5 := u4.trans d5
    refine q_when (b := false) (et_is (et_test (ev_eqN (a := 7) (b := 6) (hnum u5 (ev_var rfl)) ev_c)) rfl) (fun z => by cases z) (fun _ G6 d6 => ?_)
    have u6 : Ex H G6 := u5.trans d6
    refine q_when (b := true) (et_is (et_test (ev_eqN (a := 7) (b := 7) (hnum u6 (ev_var rfl)) ev_c)) rfl) (fun _ G9 d9 => ?_) (fun z => by cases z)
    have eX : Ex H G9 := u6.trans d9
    exact s_meth (hh.mono eX) (ev_var rfl) (ea_cons (ev_ixN (i := 0) (hll eX (ev_var rfl)) ev_c (eX _ _ hl2) q0) ea_nil) (by decide +kernel) (fun G e9 => ⟨ph, r0, t, _, rfl, hh.mono (eX.trans e9), hw, e9 _ _ (eX _ _ p0), by omega, k.mono (eX.trans e9)⟩)
  | clauses h =>
    obtain ⟨r0, q0, p0⟩ := hls.2 0 _ rfl
    refine q_when (b := false) (et_is (et_test (ev_eqN (a := 8) (b := 0) (hnum (Ex.refl H) (ev_var rfl)) ev_c)) rfl) (fun z => by cases z) (fun _ G0 d0 => ?_)
    have u0 : Ex H G0 := d0
    refine q_when (b := false) (et_is (et_test (ev_eqN (a := 8) (b := 1) (hnum u0 (ev_var rfl)) ev_c)) rfl) (fun z => by cases z) (fun _ G1 d1 => ?_)
    have u1 : Ex H G1 := u0.trans d1
    refine q_when (b := false) (et_is (et_test (ev_eqN (a := 8) (b := 2) (hnum u1 (ev_var rfl)) ev_c)) rfl) (fun z => by cases z) (fun _ G2 d2 => ?_)
    have u2 : Ex H G2 := u1.trans d2
    refine q_when (b := false) (et_is (et_test (ev_eqN (a := 8) (b := 3) (hnum u2 (ev_var rfl)) ev_c)) rfl) (fun z => by cases z) (fun _ G3 d3 => ?_)
    have u3 : Ex H G3 := u2.trans d3
    refine q_when (b := false) (et_is (et_test (ev_eqN (a := 8) (b := 4) (hnum u3 (ev_var rfl)) ev_c)) rfl) (fun z => by cases z) (fun _ G4 d4 => ?_)
    have u4 : Ex H G4 := u3.trans d4
    refine q_when (b := false) (et_is (et_test (ev_eqN (a := 8) (b := 5) (hnum u4 (ev_var rfl)) ev_c)) rfl) (fun z => by cases z) (fun _ G5 d5 => ?_)
    have u5 : Ex H G5 := u4.trans d5
    refine q_when (b := false) (et_is (et_test (ev_eqN (a := 8) (b := 6) (hnum u5 (ev_var rfl)) ev_c)) rfl) (fun z => by cases z) (fun _ G6 d6 => ?_)
    have u6 : Ex H G6 := u5.trans d6
    refine q_when (b := false) (et_is (et_test (ev_eqN (a := 8) (b := 7) (hnum u6 (ev_var rfl)) ev_c)) rfl) (fun z => by cases z) (fun _ G7 d7 => ?_)
    have u7 : Ex H G7 := u6.trans d7
    refine q_when (b := true) (et_is (et_test (ev_eqN (a := 8) (b := 8) (hnum u7 (ev_var rfl)) ev_c)) rfl) (fun _ G9 d9 => ?_) (fun z => by cases z)
    have eX : Ex H G9 := u7.trans d9
    exact s_meth (hh.mono eX) (ev_var rfl) (ea_cons (ev_ixN (i := 0) (hll eX (ev_var rfl)) ev_c (eX _ _ hl2) q0) ea_nil) (by decide +kernel) (fun G e9 => ⟨ph, r0, t, _, rfl, hh.mono (eX.trans e9), hw, e9 _ _ (eX _ _ p0), by omega, k.mono (eX.trans e9)⟩)
  | pair h g =>
    obtain ⟨r0, q0, p0⟩ := hls.2 0 _ rfl
    obtain ⟨r1, q1, p1⟩ := hls.2 1 _ rfl
    refine q_when (b := false) (et_is (et_test (ev_eqN (a := 9) (b := 0) (hnum (Ex.refl H) (ev_var rfl)) ev_c)) rfl) (fun z => by cases z) (fun _ G0 d0 => ?_)
    have u0 : Ex H G0 := d0
    refine q_when (b := false) (et_is (et_test (ev_eqN (a := 9) (b := 1) (hnum u0 (ev_var rfl)) ev_c)) rfl) (fun z => by cases z) (fun _ G1 d1 => ?_)
    have u1 : Ex H G1 := u0.trans d1
    refine q_when (b := false) (et_is (et_test (ev_eqN (a := 9) (b := 2) (hnum u1 (ev_var rfl)) ev_c)) rfl) (fun z => by cases z) (fun _ G2 d2 => ?_)
    have u2 : Ex H G2 := u1.trans d2
    refine q_when (b := false) (et_is (et_test (ev_eqN (a := 9) (b := 3) (hnum u2 (ev_var rfl)) ev_c)) rfl) (fun z => by cases z) (fun _ G3 d3 => ?_)
    have u3 : Ex H G3 := u2.trans d3
    refine q_when (b := false) (et_is (et_test (ev_eqN (a := 9) (b := 4) (hnum u3 (ev_var rfl)) ev_c)) rfl) (fun z => by cases z) (fun _ G4 d4 => ?_)
    have u4 : Ex H G4 := u3.trans d4
    refine q_when (b := false) (et_is (et_test (ev_eqN (a := 9) (b := 5) (hnum u4 (ev_var rfl)) ev_c)) rfl) (fun z => by cases z) (fun _ G5 d5 => ?_)
    have u5 : Ex H G5 := u4.trans d5
    refine q_when (b := false) (et_is (et_test (ev_eqN (a := 9) (b := 6) (hnum u5 (ev_var rfl)) ev_c)) rfl) (fun z => by cases z) (fun _ G6 d6 => ?_)
    have u6 : Ex H G6 := u5.trans d6
    refine q_when (b := false) (et_is (et_test (ev_eqN (a := 9) (b := 7) (hnum u6 (ev_var rfl)) ev_c)) rfl) (fun z => by cases z) (fun _ G7 d7 => ?_)
    have u7 : Ex H G7 := u6.trans d7
    refine q_when (b := false) (et_is (et_test (ev_eqN (a := 9) (b := 8) (hnum u7 (ev_var rfl)) ev_c)) rfl) (fun z => by cases z) (fun _ G8 d8 => ?_)
    have u8 : Ex H G8 := u7.trans d8
    have eX : Ex H G8 := u8
    exact s_meth (hh.mono eX) (ev_var rfl) (ea_cons (ev_ixN (i := 0) (hll eX (ev_var rfl)) ev_c (eX _ _ hl2) q0) (ea_cons (ev_ixN (i := 1) (hll eX (ev_var rfl)) ev_c (eX _ _ hl2) q1) ea_nil)) (by decide +kernel) (fun G e9 => ⟨ph, r0, r1, t, _, _, rfl, hh.mono (eX.trans e9), hw, e9 _ _ (eX _ _ p0), by omega, e9 _ _ (eX _ _ p1), by omega, k.mono (eX.trans e9)⟩)
end
end PC

set_option Elab.async false
set_option linter.all false
set_option maxRecDepth 100000
set_option maxHeartbeats 2000000
namespace PC
open PySem PySem.Spec PyProof.Rows L2 Evl
section
variable {K : PySem.W.Frag} {σ : L2.St} {H H' : Hp} {ta tb te : TE} {D : Ends} {tz : TS}
theorem q_asgLock {i : Nat} {d : Addr} {u : HO} (hd : H d = some u) (mu : Mut (some u)) (h : ∀ od, te σ (upd H d (.frz od u)) fun v H' => H' d = some (.frz od u) ∧ tz D (σ.set i (some v)) (upd H' d u)) : tSeq (tAsg (tLockE te) (gName i)) tz D σ H := ⟨d, u, hd, mu, h⟩
theorem call_run {sp : Sp} {tr : TA} {vs : List V} {Q : VK} (h : EvA tr σ H vs) (k : ∀ H1, Ex H H1 → sp (vs ++ []) H1 Q E0) : tCall sp [] E0 tr σ H Q := h H (Ex.refl H) _ fun H1 e => k H1 e
theorem q_appZ {l : Addr} {xs : List V} {v : V} (hl : H l = some (.lst xs)) (ha : Ev ta σ H (.ref l)) (h : Ev te σ H v) (hz : xs.length < sizeLine) (k : ∀ H1, Ex H H1 → tz D σ (upd H1 l (.lst (xs ++ [v])))) :
    tSeq (tDrop (tBM K "list" rAppend ta (tCons te tNil))) tz D σ H := ha H (Ex.refl H) _ fun H1 e1 =>
  ⟨Or.inl ⟨rfl, xs, sq_of (e1 l _ hl)⟩, h H1 e1 _ fun H2 e2 => ⟨l, xs, v, rfl, rfl, e2 l _ (e1 l _ hl), hz, k H2 (e1.trans e2)⟩⟩
theorem s_extZ {l b : Addr} {xs zs : List V} (hl : H l = some (.lst xs)) (ha : Ev ta σ H (.ref l)) (h : Ev te σ H (.ref b)) (hb : H b = some (.lst zs)) (hz : xs.length + zs.length ≤ sizeLine) (k : ∀ H1, Ex H H1 → D.nx σ (upd H1 l (.lst (xs ++ zs)))) :
    tDrop (tBM K "list" rExtend ta (tCons te tNil)) D σ H := ha H (Ex.refl H) _ fun H1 e1 => ⟨.inl ⟨rfl, xs, sq_of (e1 _ _ hl)⟩, h H1 e1 _ fun H2 e2 => ⟨l, b, xs, zs, rfl, rfl, e2 _ _ (e1 _ _ hl), e2 _ _ (e1 _ _ hb), hz, k H2 (e1.trans e2)⟩⟩
end
theorem less_upd {H : Hp} {p : Addr} {o : HO} : less (upd H p o) p = less H p := by
  funext b
  by_cases z : b = p
  · subst z
    rw [less_at, less_at]
  · rw [less_ne z, less_ne z, upd_ne z]
theorem less_put {H : Hp} {p : Addr} {o : HO} : Ex (less H p) (upd H p o) := Ex.mut less_ex less_at
theorem ex_less {H H' : Hp} {p : Addr} (e : Ex H H') (h : H p = none) : Ex H (less H' p) := fun b o hb => by
  rw [less_ne (fun z => by rw [z, h] at hb; cases hb)]
  exact e _ _ hb
section
variable {P : Program} {w : World} {K : PySem.W.Frag} {mg : Str → Option Value} {base : Heap} {A : Ad} {f : Addr} {fd : FuncData}
theorem HouseAt.lessF {H : Hp} {p q : Addr} {t : Pn.Task} {o : Obj} {u : HO} (h : HouseAt A H p t) (hq : H q = some (.frz o u)) : HouseAt A (less H q) p t := by
  obtain ⟨dx, pt, h1, ht⟩ := h
  obtain ⟨dy, la, as, h2, h3, h4, h5⟩ := ht.ex
  have ne : ∀ b v, H b = some v → (∀ o u, v ≠ .frz o u) → less H q b = some v := fun b v hb hv => by
    rw [less_ne (fun z => by
      rw [z, hq] at hb
      exact hv _ _ (Option.some.inj hb).symm)]
    exact hb
  refine ⟨dx, pt, ne _ _ h1 (fun _ _ z => by cases z), ⟨dy, la, as, ne _ _ h2 (fun _ _ z => by cases z), ne _ _ h3 (fun _ _ z => by cases z), h4, fun i x hx => ?_⟩⟩
  obtain ⟨a, g1, dz, g2⟩ := h5 i x hx
  exact ⟨a, g1, dz, ne _ _ g2 (fun _ _ z => by cases z)⟩
/-- what stands beside the list of answers: the house, the list of calls, the calls -/
structure Good (A : Ad) (L : Hp) (ph q : Addr) (ps : List Addr) (cs : List C) (t : Pn.Task) : Prop where
  ho : HouseAt A L ph t
  li : L q = some (.lst (ps.map V.ref))
  ca : F2 (fun p c => ∃ G : Hp, Ex G L ∧ G ph = none ∧ CallAt A G p c) ps cs
theorem Good.mono {L L' : Hp} {ph q : Addr} {ps : List Addr} {cs : List C} {t : Pn.Task} (h : Good A L ph q ps cs t) (e : Ex L L') : Good A L' ph q ps cs t := ⟨h.ho.mono e, e _ _ h.li, h.ca.imp fun _ _ ⟨G, g1, g2⟩ => ⟨G, g1.trans e, g2⟩⟩
def spAns0 (K : PySem.W.Frag) : Sp := fun vs H Q _ => ∃ (a : Addr) (ns : List Int), vs = [.ref a] ∧ SqL K H a (ns.map V.int) ∧ PyPn18.answers_asked ns = true ∧ (∀ x ∈ ns, 0 ≤ x ∧ x ≤ 4294967295) ∧ ns.length ≤ 13000 ∧
  ∀ (H' : Hp) (p : Addr), H' p = some (.lst ((PyPn18.answers ns).map V.int)) → Q (.ref p) H'
def sp_answers (K : PySem.W.Frag) (_ : Ad) : Sp := spAns0 K
theorem d_answers (T : Top K mg A) (F : Fun K "answers" "answers" s_answers f fd) (D_read_calls : Def P w K mg base "read_calls" 3 ["told"] (sp_read_calls K A)) (D_answer : Def P w K mg base "answer" 9 ["house", "call"] (sp_answer K A)) (D_House : DefC P w K mg base "House" A.house 3 ["self"] (sp_House___init__ K A)) : FnOk P w K mg base CX0 10 f fd ["calls"] (sp_answers K A) := by
  obtain ⟨f_read_calls, fd_read_calls, g_read_calls, k_read_calls, b_read_calls, G_read_calls⟩ := D_read_calls
  obtain ⟨f_answer, fd_answer, g_answer, k_answer, b_answer, G_answer⟩ := D_answer
  obtain ⟨f_House, fd_House, g_House, M_House, b_House, G_House⟩ := D_House
  refine F.ok sc_answers (fun vs H Q E h => ?_) (fun cdv A' outer s H vs Q E hr h => ?_)
  · obtain ⟨a, ns, rfl, hS, hask, hbd, hlen, k⟩ := h
    rfl
  obtain ⟨a, ns, rfl, hS, hask, hbd, hlen, k⟩ := h
  refine ⟨_, (pss_cons (ps_set (i := 1) sc_answers.nd rfl (by first | exact Or.inl rfl | exact Or.inr rfl) (pe_make0 M_House G_House (hr.mono (by decide)) rfl g_House b_House .nil pass0)) (pss_cons (ps_set (i := 2) sc_answers.nd rfl (by first | exact Or.inl rfl | exact Or.inr rfl) (pe_lst pa_nil)) (pss_cons (ps_for PassesOwn.never rfl (pi_listK (K := K) rfl (pe_call G_read_calls (hr.mono (by decide)) rfl g_read_calls k_read_calls b_read_calls .nil pass0 (pa_cons (pv 0) pa_nil))) (pg_name (i := 3) sc_answers.nd rfl (by first | exact Or.inl rfl | exact Or.inr rfl)) (pss_cons (ps_set (i := 4) sc_answers.nd rfl (by first | exact Or.inl rfl | exact Or.inr rfl) (pe_lock (pe_call G_answer (hr.mono (by decide)) rfl g_answer k_answer b_answer .nil pass0 (pa_cons (pv 1) (pa_cons (pv 3) pa_nil))))) (pss_cons (ps_expr (pe_bm PySem.F.plainAttrs_list PySem.F.slot_list_append PySem.F.type_list_append mt_append (pv 2) (pa_cons (pe_callB (call_lenK (K := K) rfl) (by rfl) T.b_len (by decide +kernel) (pa_cons (pv 4) pa_nil)) pa_nil))) (pss_one (ps_expr (pe_bm PySem.F.plainAttrs_list PySem.F.slot_list_extend PySem.F.type_list_extend mt_extend (pv 2) (pa_cons (pv 4) pa_nil))))))) (pss_one (ps_ret (pv 2)))))), ?_⟩
  obtain ⟨cs, xs, hflat, hIs, hans, htot⟩ := asked_calls hask
  rw [hans] at k
  have hlin : (1000060 : Nat) < sizeLine := by decide
  refine q_asgP (Y := fun v H2 => ∃ ph, v = .ref ph ∧ HouseAt A H2 ph Pn18.init.task) (ep_make ea_nil (fun H1 x dx e1 hx e2 Q q => ⟨H1, x, dx, rfl, hx, e2, upd_same, fun H3 e3 h3 => ⟨rfl, q H3 e3 ⟨x, rfl, h3⟩⟩⟩)) (fun v H1 e1 ⟨ph, hv, hh⟩ => ?_)
  subst hv
  refine q_asgL (xs := []) (el_lst ea_nil (by decide)) (fun pl H2 hpl e2 hl2 => ?_)
  have hph2 : ∃ o, H2 ph = some o := by
    obtain ⟨dx, pt, hp, _⟩ := hh
    exact ⟨_, e2 _ _ hp⟩
  obtain ⟨oh, hph2⟩ := hph2
  have nlh : pl ≠ ph := fun z => by
    obtain ⟨dx, pt, hp, _⟩ := id hh
    rw [← z, hpl] at hp
    cases hp
  have hS2 : SqL K H2 a ((flatCs cs).map natV) := by
    rw [← hflat, ← ints_nats fun x hx => (hbd x hx).1]
    exact ex_l (e1.trans e2) hS
  have hfl : (flatCs cs).length ≤ 13000 := by
    rw [← hflat, List.length_map]
    exact hlen
  refine ep_call (Y := fun v H3 => ∃ q ps, v = .ref q ∧ H2 q = none ∧ H3 q = some (.lst (ps.map V.ref)) ∧ F2 (NewCall A H2 H3) ps cs) (ea_cons (ev_var rfl) ea_nil) (fun H3 e3 Q q E => ⟨_, ⟨a, cs, rfl, ex_l e3 hS2, hfl, rfl⟩, fun v H4 e4 ⟨q', ps, h1, h2, h3, h4⟩ => q v H4 e4 ⟨q', ps, h1, fresh_back e3 h2, h3, h4.imp fun _ _ ⟨G, g1, g2, g3⟩ => ⟨G, g1, fun x o hx => g2 x o (e3 _ _ hx), g3⟩⟩⟩) H2 (Ex.refl H2) _ fun v H3 e3 ⟨q, ps, hv, hq2, hq3, hf⟩ => ?_
  subst hv
  have nql : q ≠ pl := fun z => by
    rw [z, hl2] at hq2
    cases hq2
  have nqh : q ≠ ph := fun z => by
    rw [z, hph2] at hq2
    cases hq2
  have hpl3 := e3 _ _ hl2
  have hlx : xs.length = ps.length := by rw [← hIs.len, ← hf.len]
  have good0 : Good A (less H3 pl) ph q ps cs Pn18.init.task := by
    refine ⟨hh.mono (ex_less (e2.trans e3) hpl), by rw [less_ne nql]; exact hq3, hf.imp fun p c ⟨G, g1, g2, g3⟩ => ⟨G, ex_less g1 (g2 _ _ hl2), g2 _ _ hph2, g3⟩⟩
  refine ⟨q, rfl, ⟨_, sq_of hq3⟩, for_list (K := K) (a := q) (xs := ps.map V.ref) (fun i σ' H' => ∃ (t : Pn.Task) (acc : List Int) (o3 o4 : Option V), σ' = [some (.ref a), some (.ref ph), some (.ref pl), o3, o4] ∧ H' pl = some (.lst (acc.map V.int)) ∧ acc ++ runL t (xs.drop i) = runL Pn18.init.task xs ∧ WF t ∧ Good A (less H' pl) ph q ps cs t)
    ⟨Pn18.init.task, [], none, none, rfl, hpl3, rfl, wf_init, good0⟩ (fun i σ' H' _ ⟨_, _, _, _, _, _, _, _, g⟩ => sq_of (less_ex _ _ g.li)) (fun i y σ' H' hi ⟨t, acc, o3, o4, hσ, hpl', hrun, hw, good⟩ => ?_) (fun σ' H' ⟨t, acc, o3, o4, hσ, hpl', hrun, hw, good⟩ => ?_)⟩
  · subst hσ
    have hi2 : i < xs.length := by
      rw [hlx]
      have := (List.getElem?_eq_some_iff.mp hi).1
      rw [List.length_map] at this
      exact this
    have hxi : xs[i]? = some xs[i] := List.getElem?_eq_getElem hi2
    obtain ⟨c, hci, his⟩ := hIs.get hxi
    obtain ⟨p, hpi, G, hG1, hG2, hG3⟩ := good.ca.get hci
    rw [List.getElem?_map, hpi] at hi
    cases (Option.some.inj hi)
    have hdrop : xs.drop i = xs[i] :: xs.drop (i + 1) := List.drop_eq_getElem_cons hi2
    have hacc : (acc ++ ((answerOf t xs[i]).length : Int) :: (answerOf t xs[i] ++ runL (taskOf t xs[i]) (xs.drop (i + 1)))).length ≤ 1000060 := by
      have : runL t (xs.drop i) = ((answerOf t xs[i]).length : Int) :: (answerOf t xs[i] ++ runL (taskOf t xs[i]) (xs.drop (i + 1))) := by
        rw [hdrop]
        rfl
      rw [← this, hrun]
      exact htot
    rw [List.length_append, List.length_cons, List.length_append] at hacc
    refine q_asgLock hpl' trivial fun od => ?_
    refine call_run (vs := [.ref ph, .ref p]) (ea_cons (ev_var rfl) (ea_cons (ev_var rfl) ea_nil)) (fun H5 e5 => ?_)
    have eL : Ex (less H' pl) H5 := less_put.trans e5
    have hpl5 : H5 pl = some (.frz od (.lst (acc.map V.int))) := e5 _ _ upd_same
    refine ⟨ph, p, t, c, xs[i], rfl, good.ho.mono eL, hw, hG3.mono (hG1.trans eL), his, fun H6 r hh6 hr6 hfr e6 => ?_⟩
    have hpl6 : H6 pl = some (.frz od (.lst (acc.map V.int))) := e6 _ _ (by rw [less_ne nlh]; exact hpl5)
    have nrl : r ≠ pl := fun z => by
      rw [z, hpl5] at hfr
      cases hfr
    have thr : ∀ b o, less H' pl b = some o → b ≠ ph → less H6 pl b = some o := fun b o hb hn => by
      have hbl : b ≠ pl := fun z => by
        rw [z, less_at] at hb
        cases hb
      rw [less_ne hbl]
      refine e6 _ _ ?_
      rw [less_ne hn]
      exact eL _ _ hb
    have good6 : Good A (less H6 pl) ph q ps cs (taskOf t xs[i]) := ⟨hh6.lessF hpl6, thr _ _ good.li nqh, good.ca.imp fun _ _ ⟨G, g1, g2, g3⟩ => ⟨G, fun b o hb => thr b o (g1 _ _ hb) (fun z => by rw [z, g2] at hb; cases hb), g2, g3⟩⟩
    refine ⟨hpl6, ?_⟩
    have hr7 : upd H6 pl (.lst (acc.map V.int)) r = some (.lst ((answerOf t xs[i]).map V.int)) := by
      rw [upd_ne nrl]
      exact hr6
    refine q_appZ (xs := acc.map V.int) (v := natV (answerOf t xs[i]).length) upd_same (ev_var rfl) (ev_lenN (ev_var rfl) hr7 (List.length_map _)) (by rw [List.length_map]; omega) (fun H8 e8 => ?_)
    have hr9 : upd H8 pl (.lst (acc.map V.int ++ [natV (answerOf t xs[i]).length])) r = some (.lst ((answerOf t xs[i]).map V.int)) := by
      rw [upd_ne nrl]
      exact e8 _ _ hr7
    refine s_extZ (xs := acc.map V.int ++ [natV (answerOf t xs[i]).length]) (zs := (answerOf t xs[i]).map V.int) upd_same (ev_var rfl) (ev_var rfl) hr9 (by rw [List.length_append, List.length_map, List.length_map, List.length_singleton]; omega) (fun H10 e10 => ?_)
    refine ⟨taskOf t xs[i], acc ++ ((answerOf t xs[i]).length : Int) :: answerOf t xs[i], some (.ref p), some (.ref r), rfl, ?_, ?_, wf_step hw _, ?_⟩
    · rw [upd_same, List.map_append, List.map_cons, List.append_assoc]
      rfl
    · rw [← hrun, hdrop, List.append_assoc]
      rfl
    · rw [less_upd]
      have e1 := less_mono (p := pl) e8
      have e2 := less_mono (p := pl) e10
      rw [less_upd] at e1 e2
      exact (good6.mono e1).mono e2
  · subst hσ
    rw [List.length_map, ← hlx, List.drop_length] at hrun
    have hrun : acc ++ [] = runL Pn18.init.task xs := hrun
    rw [List.append_nil] at hrun
    rw [hrun] at hpl'
    exact s_ret (ev_var rfl) (fun H4 e4 => k H4 pl (e4 _ _ hpl'))
end
end PC

set_option Elab.async false
set_option linter.all false
set_option maxRecDepth 100000
set_option maxHeartbeats 4000000
namespace PC
open PySem PySem.Spec PyProof.Rows L2 Evl
theorem all_mk {P : Program} {w : World} {K : PySem.W.Frag} {h : Heap} {mg : Str → Option Value} {fa : Addr} {f_Act___init__ : Addr} {od_Act___init__ an_Act___init__ : Option Addr} {oc_Act___init__ kV_Act___init__ doc_Act___init__ pm_Act___init__ cdv_Act___init__ ct_Act___init__ : Value} {osl_Act___init__ : Array (Option Value)} {f_Task___init__ : Addr} {od_Task___init__ an_Task___init__ : Option Addr} {oc_Task___init__ kV_Task___init__ doc_Task___init__ pm_Task___init__ cdv_Task___init__ ct_Task___init__ : Value} {osl_Task___init__ : Array (Option Value)} {f_are_there : Addr} {od_are_there an_are_there : Option Addr} {oc_are_there kV_are_there doc_are_there pm_are_there cdv_are_there ct_are_there : Value} {osl_are_there : Array (Option Value)} {f_states_of : Addr} {od_states_of an_states_of : Option Addr} {oc_states_of kV_states_of doc_states_of pm_states_of cdv_states_of ct_states_of : Value} {osl_states_of : Array (Option Value)} {f_as_wanted : Addr} {od_as_wanted an_as_wanted : Option Addr} {oc_as_wanted kV_as_wanted doc_as_wanted pm_as_wanted cdv_as_wanted ct_as_wanted : Value} {osl_as_wanted : Array (Option Value)} {f_may_be_done : Addr} {od_may_be_done an_may_be_done : Option Addr} {oc_may_be_done kV_may_be_done doc_may_be_done pm_may_be_done cdv_may_be_done ct_may_be_done : Value} {osl_may_be_done : Array (Option Value)} {f_behind : Addr} {od_behind an_behind : Option Addr} {oc_behind kV_behind doc_behind pm_behind cdv_behind ct_behind : Value} {osl_behind : Array (Option Value)} {f_plan_check : Addr} {od_plan_check an_plan_check : Option Addr} {oc_plan_check kV_plan_check doc_plan_check pm_plan_check cdv_plan_check ct_plan_check : Value} {osl_plan_check : Array (Option Value)} {f_falls_too_fast : Addr} {od_falls_too_fast an_falls_too_fast : Option Addr} {oc_falls_too_fast kV_falls_too_fast doc_falls_too_fast pm_falls_too_fast cdv_falls_too_fast ct_falls_too_fast : Value} {osl_falls_too_fast : Array (Option Value)} {f_table_check : Addr} {od_table_check an_table_check : Option Addr} {oc_table_check kV_table_check doc_table_check pm_table_check cdv_table_check ct_table_check : Value} {osl_table_check : Array (Option Value)} {f_had_without : Addr} {od_had_without an_had_without : Option Addr} {oc_had_without kV_had_without doc_had_without pm_had_without cdv_had_without ct_had_without : Value} {osl_had_without : Array (Option Value)} {f_cuts_check : Addr} {od_cuts_check an_cuts_check : Option Addr} {oc_cuts_check kV_cuts_check doc_cuts_check pm_cuts_check cdv_cuts_check ct_cuts_check : Value} {osl_cuts_check : Array (Option Value)} {f_set_check : Addr} {od_set_check an_set_check : Option Addr} {oc_set_check kV_set_check doc_set_check pm_set_check cdv_set_check ct_set_check : Value} {osl_set_check : Array (Option Value)} {f_is_true : Addr} {od_is_true an_is_true : Option Addr} {oc_is_true kV_is_true doc_is_true pm_is_true cdv_is_true ct_is_true : Value} {osl_is_true : Array (Option Value)} {f_holds : Addr} {od_holds an_holds : Option Addr} {oc_holds kV_holds doc_holds pm_holds cdv_holds ct_holds : Value} {osl_holds : Array (Option Value)} {f_first_broken : Addr} {od_first_broken an_first_broken : Option Addr} {oc_first_broken kV_first_broken doc_first_broken pm_first_broken cdv_first_broken ct_first_broken : Value} {osl_first_broken : Array (Option Value)} {f_clauses_check : Addr} {od_clauses_check an_clauses_check : Option Addr} {oc_clauses_check kV_clauses_check doc_clauses_check pm_clauses_check cdv_clauses_check ct_clauses_check : Value} {osl_clauses_check : Array (Option Value)} {f_pair_check : Addr} {od_pair_check an_pair_check : Option Addr} {oc_pair_check kV_pair_check doc_pair_check pm_pair_check cdv_pair_check ct_pair_check : Value} {osl_pair_check : Array (Option Value)} {f_clauses_in_order : Addr} {od_clauses_in_order an_clauses_in_order : Option Addr} {oc_clauses_in_order kV_clauses_in_order doc_clauses_in_order pm_clauses_in_order cdv_clauses_in_order ct_clauses_in_order : Value} {osl_clauses_in_order : Array (Option Value)} {f_rows_in_order : Addr} {od_rows_in_order an_rows_in_order : Option Addr} {oc_rows_in_order kV_rows_in_order doc_rows_in_order pm_rows_in_order cdv_rows_in_order ct_rows_in_order : Value} {osl_rows_in_order : Array (Option Value)} {f_find_clauses : Addr} {od_find_clauses an_find_clauses : Option Addr} {oc_find_clauses kV_find_clauses doc_find_clauses pm_find_clauses cdv_find_clauses ct_find_clauses : Value} {osl_find_clauses : Array (Option Value)} {f_Eased___init__ : Addr} {od_Eased___init__ an_Eased___init__ : Option Addr} {oc_Eased___init__ kV_Eased___init__ doc_Eased___init__ pm_Eased___init__ cdv_Eased___init__ ct_Eased___init__ : Value} {osl_Eased___init__ : Array (Option Value)} {f_facts_in : Addr} {od_facts_in an_facts_in : Option Addr} {oc_facts_in kV_facts_in doc_facts_in pm_facts_in cdv_facts_in ct_facts_in : Value} {osl_facts_in : Array (Option Value)} {f_row_worth : Addr} {od_row_worth an_row_worth : Option Addr} {oc_row_worth kV_row_worth doc_row_worth pm_row_worth cdv_row_worth ct_row_worth : Value} {osl_row_worth : Array (Option Value)} {f_fact_worth : Addr} {od_fact_worth an_fact_worth : Option Addr} {oc_fact_worth kV_fact_worth doc_fact_worth pm_fact_worth cdv_fact_worth ct_fact_worth : Value} {osl_fact_worth : Array (Option Value)} {f_fact_worths : Addr} {od_fact_worths an_fact_worths : Option Addr} {oc_fact_worths kV_fact_worths doc_fact_worths pm_fact_worths cdv_fact_worths ct_fact_worths : Value} {osl_fact_worths : Array (Option Value)} {f_Cut___init__ : Addr} {od_Cut___init__ an_Cut___init__ : Option Addr} {oc_Cut___init__ kV_Cut___init__ doc_Cut___init__ pm_Cut___init__ cdv_Cut___init__ ct_Cut___init__ : Value} {osl_Cut___init__ : Array (Option Value)} {f_dear_fact : Addr} {od_dear_fact an_dear_fact : Option Addr} {oc_dear_fact kV_dear_fact doc_dear_fact pm_dear_fact cdv_dear_fact ct_dear_fact : Value} {osl_dear_fact : Array (Option Value)} {f_zone_of : Addr} {od_zone_of an_zone_of : Option Addr} {oc_zone_of kV_zone_of doc_zone_of pm_zone_of cdv_zone_of ct_zone_of : Value} {osl_zone_of : Array (Option Value)} {f_is_among : Addr} {od_is_among an_is_among : Option Addr} {oc_is_among kV_is_among doc_is_among pm_is_among cdv_is_among ct_is_among : Value} {osl_is_among : Array (Option Value)} {f_before_zone : Addr} {od_before_zone an_before_zone : Option Addr} {oc_before_zone kV_before_zone doc_before_zone pm_before_zone cdv_before_zone ct_before_zone : Value} {osl_before_zone : Array (Option Value)} {f_next_cut : Addr} {od_next_cut an_next_cut : Option Addr} {oc_next_cut kV_next_cut doc_next_cut pm_next_cut cdv_next_cut ct_next_cut : Value} {osl_next_cut : Array (Option Value)} {f_find_cuts : Addr} {od_find_cuts an_find_cuts : Option Addr} {oc_find_cuts kV_find_cuts doc_find_cuts pm_find_cuts cdv_find_cuts ct_find_cuts : Value} {osl_find_cuts : Array (Option Value)} {f_cost_through : Addr} {od_cost_through an_cost_through : Option Addr} {oc_cost_through kV_cost_through doc_cost_through pm_cost_through cdv_cost_through ct_cost_through : Value} {osl_cost_through : Array (Option Value)} {f_cost_from : Addr} {od_cost_from an_cost_from : Option Addr} {oc_cost_from kV_cost_from doc_cost_from pm_cost_from cdv_cost_from ct_cost_from : Value} {osl_cost_from : Array (Option Value)} {f_cheapest_costs : Addr} {od_cheapest_costs an_cheapest_costs : Option Addr} {oc_cheapest_costs kV_cheapest_costs doc_cheapest_costs pm_cheapest_costs cdv_cheapest_costs ct_cheapest_costs : Value} {osl_cheapest_costs : Array (Option Value)} {f_first_step : Addr} {od_first_step an_first_step : Option Addr} {oc_first_step kV_first_step doc_first_step pm_first_step cdv_first_step ct_first_step : Value} {osl_first_step : Array (Option Value)} {f_first_cheapest_plan : Addr} {od_first_cheapest_plan an_first_cheapest_plan : Option Addr} {oc_first_cheapest_plan kV_first_cheapest_plan doc_first_cheapest_plan pm_first_cheapest_plan cdv_first_cheapest_plan ct_first_cheapest_plan : Value} {osl_first_cheapest_plan : Array (Option Value)} {f_states_behind : Addr} {od_states_behind an_states_behind : Option Addr} {oc_states_behind kV_states_behind doc_states_behind pm_states_behind cdv_states_behind ct_states_behind : Value} {osl_states_behind : Array (Option Value)} {f_states_come_to : Addr} {od_states_come_to an_states_come_to : Option Addr} {oc_states_come_to kV_states_come_to doc_states_come_to pm_states_come_to cdv_states_come_to ct_states_come_to : Value} {osl_states_come_to : Array (Option Value)} {f_is_kind : Addr} {od_is_kind an_is_kind : Option Addr} {oc_is_kind kV_is_kind doc_is_kind pm_is_kind cdv_is_kind ct_is_kind : Value} {osl_is_kind : Array (Option Value)} {f_own_plan : Addr} {od_own_plan an_own_plan : Option Addr} {oc_own_plan kV_own_plan doc_own_plan pm_own_plan cdv_own_plan ct_own_plan : Value} {osl_own_plan : Array (Option Value)} {f_own_table : Addr} {od_own_table an_own_table : Option Addr} {oc_own_table kV_own_table doc_own_table pm_own_table cdv_own_table ct_own_table : Value} {osl_own_table : Array (Option Value)} {f_own_cuts : Addr} {od_own_cuts an_own_cuts : Option Addr} {oc_own_cuts kV_own_cuts doc_own_cuts pm_own_cuts cdv_own_cuts ct_own_cuts : Value} {osl_own_cuts : Array (Option Value)} {f_own_states : Addr} {od_own_states an_own_states : Option Addr} {oc_own_states kV_own_states doc_own_states pm_own_states cdv_own_states ct_own_states : Value} {osl_own_states : Array (Option Value)} {f_own_clauses : Addr} {od_own_clauses an_own_clauses : Option Addr} {oc_own_clauses kV_own_clauses doc_own_clauses pm_own_clauses cdv_own_clauses ct_own_clauses : Value} {osl_own_clauses : Array (Option Value)} {f_own_proof : Addr} {od_own_proof an_own_proof : Option Addr} {oc_own_proof kV_own_proof doc_own_proof pm_own_proof cdv_own_proof ct_own_proof : Value} {osl_own_proof : Array (Option Value)} {f_Call___init__ : Addr} {od_Call___init__ an_Call___init__ : Option Addr} {oc_Call___init__ kV_Call___init__ doc_Call___init__ pm_Call___init__ cdv_Call___init__ ct_Call___init__ : Value} {osl_Call___init__ : Array (Option Value)} {f_counted : Addr} {od_counted an_counted : Option Addr} {oc_counted kV_counted doc_counted pm_counted cdv_counted ct_counted : Value} {osl_counted : Array (Option Value)} {f_read_calls : Addr} {od_read_calls an_read_calls : Option Addr} {oc_read_calls kV_read_calls doc_read_calls pm_read_calls cdv_read_calls ct_read_calls : Value} {osl_read_calls : Array (Option Value)} {f_is_act_row : Addr} {od_is_act_row an_is_act_row : Option Addr} {oc_is_act_row kV_is_act_row doc_is_act_row pm_is_act_row cdv_is_act_row ct_is_act_row : Value} {osl_is_act_row : Array (Option Value)} {f_are_below : Addr} {od_are_below an_are_below : Option Addr} {oc_are_below kV_are_below doc_are_below pm_are_below cdv_are_below ct_are_below : Value} {osl_are_below : Array (Option Value)} {f_is_cut : Addr} {od_is_cut an_is_cut : Option Addr} {oc_is_cut kV_is_cut doc_is_cut pm_is_cut cdv_is_cut ct_is_cut : Value} {osl_is_cut : Array (Option Value)} {f_House___init__ : Addr} {od_House___init__ an_House___init__ : Option Addr} {oc_House___init__ kV_House___init__ doc_House___init__ pm_House___init__ cdv_House___init__ ct_House___init__ : Value} {osl_House___init__ : Array (Option Value)} {f_House_begins : Addr} {od_House_begins an_House_begins : Option Addr} {oc_House_begins kV_House_begins doc_House_begins pm_House_begins cdv_House_begins ct_House_begins : Value} {osl_House_begins : Array (Option Value)} {f_House_act : Addr} {od_House_act an_House_act : Option Addr} {oc_House_act kV_House_act doc_House_act pm_House_act cdv_House_act ct_House_act : Value} {osl_House_act : Array (Option Value)} {f_House_from_state : Addr} {od_House_from_state an_House_from_state : Option Addr} {oc_House_from_state kV_House_from_state doc_House_from_state pm_House_from_state cdv_House_from_state ct_House_from_state : Value} {osl_House_from_state : Array (Option Value)} {f_House_own : Addr} {od_House_own an_House_own : Option Addr} {oc_House_own kV_House_own doc_House_own pm_House_own cdv_House_own ct_House_own : Value} {osl_House_own : Array (Option Value)} {f_House_plan : Addr} {od_House_plan an_House_plan : Option Addr} {oc_House_plan kV_House_plan doc_House_plan pm_House_plan cdv_House_plan ct_House_plan : Value} {osl_House_plan : Array (Option Value)} {f_House_table : Addr} {od_House_table an_House_table : Option Addr} {oc_House_table kV_House_table doc_House_table pm_House_table cdv_House_table ct_House_table : Value} {osl_House_table : Array (Option Value)} {f_House_cuts : Addr} {od_House_cuts an_House_cuts : Option Addr} {oc_House_cuts kV_House_cuts doc_House_cuts pm_House_cuts cdv_House_cuts ct_House_cuts : Value} {osl_House_cuts : Array (Option Value)} {f_House_state_set : Addr} {od_House_state_set an_House_state_set : Option Addr} {oc_House_state_set kV_House_state_set doc_House_state_set pm_House_state_set cdv_House_state_set ct_House_state_set : Value} {osl_House_state_set : Array (Option Value)} {f_House_clauses : Addr} {od_House_clauses an_House_clauses : Option Addr} {oc_House_clauses kV_House_clauses doc_House_clauses pm_House_clauses cdv_House_clauses ct_House_clauses : Value} {osl_House_clauses : Array (Option Value)} {f_House_pair : Addr} {od_House_pair an_House_pair : Option Addr} {oc_House_pair kV_House_pair doc_House_pair pm_House_pair cdv_House_pair ct_House_pair : Value} {osl_House_pair : Array (Option Value)} {f_answer : Addr} {od_answer an_answer : Option Addr} {oc_answer kV_answer doc_answer pm_answer cdv_answer ct_answer : Value} {osl_answer : Array (Option Value)} {f_answers : Addr} {od_answers an_answers : Option Addr} {oc_answers kV_answers doc_answers pm_answers cdv_answers ct_answers : Value} {osl_answers : Array (Option Value)} {C_Act : Addr} {C_Task : Addr} {C_Eased : Addr} {C_Cut : Addr} {C_Call : Addr} {C_House : Addr} {tk_PLAN_own : Tok} {tk_TABLE_own : Tok} {tk_CUTS_own : Tok} {tk_STATES : Tok} {tk_CLAUSES_own : Tok} {tk_MOST_FACTS : Tok} {tk_MOST_ACTS : Tok} {tk_MOST_COST : Tok} {tk_BEGINS : Tok} {tk_ACT : Tok} {tk_FROM_STATE : Tok} {tk_OWN : Tok} {tk_PLAN_house : Tok} {tk_TABLE_house : Tok} {tk_CUTS_house : Tok} {tk_SET : Tok} {tk_CLAUSES_house : Tok} (X : K.In h) (G : h.Ns mainGlobals mg) (hfa : mg "answers" = some (.ref fa)) (g_Act : PySem.W.nsIn K mainGlobals "Act" = some (some (.ref C_Act))) (pg_Act : PySem.W.plainGet K C_Act Str.empty = true) (hd_Act : PySem.W.hasDictIn K C_Act = true) (po_Act : PySem.W.plainOver K C_Act = true) (sa_Act : PySem.W.findIn K (.ref C_Act) "__setattr__" = some (some (.builtin "object.__setattr__"))) (mk_Act : PySem.W.makesIn K C_Act = true) (kc_Act : PySem.W.keepIn K (.ref C_Act) = true) (nNeeds_Act : PySem.W.findIn K (.ref C_Act) "needs" = some none) (nBars_Act : PySem.W.findIn K (.ref C_Act) "bars" = some none) (nBrings_Act : PySem.W.findIn K (.ref C_Act) "brings" = some none) (nTakes_Act : PySem.W.findIn K (.ref C_Act) "takes" = some none) (nCost_Act : PySem.W.findIn K (.ref C_Act) "cost" = some none) (g_Task : PySem.W.nsIn K mainGlobals "Task" = some (some (.ref C_Task))) (pg_Task : PySem.W.plainGet K C_Task Str.empty = true) (hd_Task : PySem.W.hasDictIn K C_Task = true) (po_Task : PySem.W.plainOver K C_Task = true) (sa_Task : PySem.W.findIn K (.ref C_Task) "__setattr__" = some (some (.builtin "object.__setattr__"))) (mk_Task : PySem.W.makesIn K C_Task = true) (kc_Task : PySem.W.keepIn K (.ref C_Task) = true) (nFacts_Task : PySem.W.findIn K (.ref C_Task) "facts" = some none) (nSo_Task : PySem.W.findIn K (.ref C_Task) "so" = some none) (nWanted_Task : PySem.W.findIn K (.ref C_Task) "wanted" = some none) (nActs_Task : PySem.W.findIn K (.ref C_Task) "acts" = some none) (g_Eased : PySem.W.nsIn K mainGlobals "Eased" = some (some (.ref C_Eased))) (pg_Eased : PySem.W.plainGet K C_Eased Str.empty = true) (hd_Eased : PySem.W.hasDictIn K C_Eased = true) (po_Eased : PySem.W.plainOver K C_Eased = true) (sa_Eased : PySem.W.findIn K (.ref C_Eased) "__setattr__" = some (some (.builtin "object.__setattr__"))) (mk_Eased : PySem.W.makesIn K C_Eased = true) (kc_Eased : PySem.W.keepIn K (.ref C_Eased) = true) (nEnd_Eased : PySem.W.findIn K (.ref C_Eased) "end" = some none) (nESo_Eased : PySem.W.findIn K (.ref C_Eased) "so" = some none) (nENeeds_Eased : PySem.W.findIn K (.ref C_Eased) "needs" = some none) (nEBrings_Eased : PySem.W.findIn K (.ref C_Eased) "brings" = some none) (g_Cut : PySem.W.nsIn K mainGlobals "Cut" = some (some (.ref C_Cut))) (pg_Cut : PySem.W.plainGet K C_Cut Str.empty = true) (hd_Cut : PySem.W.hasDictIn K C_Cut = true) (po_Cut : PySem.W.plainOver K C_Cut = true) (sa_Cut : PySem.W.findIn K (.ref C_Cut) "__setattr__" = some (some (.builtin "object.__setattr__"))) (mk_Cut : PySem.W.makesIn K C_Cut = true) (kc_Cut : PySem.W.keepIn K (.ref C_Cut) = true) (nWorth_Cut : PySem.W.findIn K (.ref C_Cut) "worth" = some none) (nCActs_Cut : PySem.W.findIn K (.ref C_Cut) "acts" = some none) (g_Call : PySem.W.nsIn K mainGlobals "Call" = some (some (.ref C_Call))) (pg_Call : PySem.W.plainGet K C_Call Str.empty = true) (hd_Call : PySem.W.hasDictIn K C_Call = true) (po_Call : PySem.W.plainOver K C_Call = true) (sa_Call : PySem.W.findIn K (.ref C_Call) "__setattr__" = some (some (.builtin "object.__setattr__"))) (mk_Call : PySem.W.makesIn K C_Call = true) (kc_Call : PySem.W.keepIn K (.ref C_Call) = true) (nNumber_Call : PySem.W.findIn K (.ref C_Call) "number" = some none) (nNumbers_Call : PySem.W.findIn K (.ref C_Call) "numbers" = some none) (nLists_Call : PySem.W.findIn K (.ref C_Call) "lists" = some none) (g_House : PySem.W.nsIn K mainGlobals "House" = some (some (.ref C_House))) (pg_House : PySem.W.plainGet K C_House Str.empty = true) (hd_House : PySem.W.hasDictIn K C_House = true) (po_House : PySem.W.plainOver K C_House = true) (sa_House : PySem.W.findIn K (.ref C_House) "__setattr__" = some (some (.builtin "object.__setattr__"))) (mk_House : PySem.W.makesIn K C_House = true) (kc_House : PySem.W.keepIn K (.ref C_House) = true) (nTask_House : PySem.W.findIn K (.ref C_House) "task" = some none) (a_Act___init__ : PySem.W.findIn K (.ref C_Act) "__init__" = some (some (.ref f_Act___init__))) (i_Act___init__ : PySem.W.isFn K (.ref f_Act___init__) = true) (l_Act___init__ : K.lookup f_Act___init__ = some ⟨oc_Act___init__, od_Act___init__, .func (PySem.W.fnOf "__init__" "Act.__init__" (defArgs s_Act___init__) (defBody s_Act___init__) (defScope s_Act___init__) .none kV_Act___init__ doc_Act___init__ pm_Act___init__ an_Act___init__ cdv_Act___init__ ct_Act___init__), osl_Act___init__⟩) (c_Act___init__ : PySem.W.codeIn K cdv_Act___init__ "Act.__init__" = true) (k_Act___init__ : PySem.W.keepIn K (.ref f_Act___init__) = true) (a_Task___init__ : PySem.W.findIn K (.ref C_Task) "__init__" = some (some (.ref f_Task___init__))) (i_Task___init__ : PySem.W.isFn K (.ref f_Task___init__) = true) (l_Task___init__ : K.lookup f_Task___init__ = some ⟨oc_Task___init__, od_Task___init__, .func (PySem.W.fnOf "__init__" "Task.__init__" (defArgs s_Task___init__) (defBody s_Task___init__) (defScope s_Task___init__) .none kV_Task___init__ doc_Task___init__ pm_Task___init__ an_Task___init__ cdv_Task___init__ ct_Task___init__), osl_Task___init__⟩) (c_Task___init__ : PySem.W.codeIn K cdv_Task___init__ "Task.__init__" = true) (k_Task___init__ : PySem.W.keepIn K (.ref f_Task___init__) = true) (a_are_there : PySem.W.nsIn K mainGlobals "are_there" = some (some (.ref f_are_there))) (l_are_there : K.lookup f_are_there = some ⟨oc_are_there, od_are_there, .func (PySem.W.fnOf "are_there" "are_there" (defArgs s_are_there) (defBody s_are_there) (defScope s_are_there) .none kV_are_there doc_are_there pm_are_there an_are_there cdv_are_there ct_are_there), osl_are_there⟩) (c_are_there : PySem.W.codeIn K cdv_are_there "are_there" = true) (k_are_there : PySem.W.keepIn K (.ref f_are_there) = true) (a_states_of : PySem.W.nsIn K mainGlobals "states_of" = some (some (.ref f_states_of))) (l_states_of : K.lookup f_states_of = some ⟨oc_states_of, od_states_of, .func (PySem.W.fnOf "states_of" "states_of" (defArgs s_states_of) (defBody s_states_of) (defScope s_states_of) .none kV_states_of doc_states_of pm_states_of an_states_of cdv_states_of ct_states_of), osl_states_of⟩) (c_states_of : PySem.W.codeIn K cdv_states_of "states_of" = true) (k_states_of : PySem.W.keepIn K (.ref f_states_of) = true) (a_as_wanted : PySem.W.nsIn K mainGlobals "as_wanted" = some (some (.ref f_as_wanted))) (l_as_wanted : K.lookup f_as_wanted = some ⟨oc_as_wanted, od_as_wanted, .func (PySem.W.fnOf "as_wanted" "as_wanted" (defArgs s_as_wanted) (defBody s_as_wanted) (defScope s_as_wanted) .none kV_as_wanted doc_as_wanted pm_as_wanted an_as_wanted cdv_as_wanted ct_as_wanted), osl_as_wanted⟩) (c_as_wanted : PySem.W.codeIn K cdv_as_wanted "as_wanted" = true) (k_as_wanted : PySem.W.keepIn K (.ref f_as_wanted) = true) (a_may_be_done : PySem.W.nsIn K mainGlobals "may_be_done" = some (some (.ref f_may_be_done))) (l_may_be_done : K.lookup f_may_be_done = some ⟨oc_may_be_done, od_may_be_done, .func (PySem.W.fnOf "may_be_done" "may_be_done" (defArgs s_may_be_done) (defBody s_may_be_done) (defScope s_may_be_done) .none kV_may_be_done doc_may_be_done pm_may_be_done an_may_be_done cdv_may_be_done ct_may_be_done), osl_may_be_done⟩) (c_may_be_done : PySem.W.codeIn K cdv_may_be_done "may_be_done" = true) (k_may_be_done : PySem.W.keepIn K (.ref f_may_be_done) = true) (a_behind : PySem.W.nsIn K mainGlobals "behind" = some (some (.ref f_behind))) (l_behind : K.lookup f_behind = some ⟨oc_behind, od_behind, .func (PySem.W.fnOf "behind" "behind" (defArgs s_behind) (defBody s_behind) (defScope s_behind) .none kV_behind doc_behind pm_behind an_behind cdv_behind ct_behind), osl_behind⟩) (c_behind : PySem.W.codeIn K cdv_behind "behind" = true) (k_behind : PySem.W.keepIn K (.ref f_behind) = true) (a_plan_check : PySem.W.nsIn K mainGlobals "plan_check" = some (some (.ref f_plan_check))) (l_plan_check : K.lookup f_plan_check = some ⟨oc_plan_check, od_plan_check, .func (PySem.W.fnOf "plan_check" "plan_check" (defArgs s_plan_check) (defBody s_plan_check) (defScope s_plan_check) .none kV_plan_check doc_plan_check pm_plan_check an_plan_check cdv_plan_check ct_plan_check), osl_plan_check⟩) (c_plan_check : PySem.W.codeIn K cdv_plan_check "plan_check" = true) (k_plan_check : PySem.W.keepIn K (.ref f_plan_check) = true) (a_falls_too_fast : PySem.W.nsIn K mainGlobals "falls_too_fast" = some (some (.ref f_falls_too_fast))) (l_falls_too_fast : K.lookup f_falls_too_fast = some ⟨oc_falls_too_fast, od_falls_too_fast, .func (PySem.W.fnOf "falls_too_fast" "falls_too_fast" (defArgs s_falls_too_fast) (defBody s_falls_too_fast) (defScope s_falls_too_fast) .none kV_falls_too_fast doc_falls_too_fast pm_falls_too_fast an_falls_too_fast cdv_falls_too_fast ct_falls_too_fast), osl_falls_too_fast⟩) (c_falls_too_fast : PySem.W.codeIn K cdv_falls_too_fast "falls_too_fast" = true) (k_falls_too_fast : PySem.W.keepIn K (.ref f_falls_too_fast) = true) (a_table_check : PySem.W.nsIn K mainGlobals "table_check" = some (some (.ref f_table_check))) (l_table_check : K.lookup f_table_check = some ⟨oc_table_check, od_table_check, .func (PySem.W.fnOf "table_check" "table_check" (defArgs s_table_check) (defBody s_table_check) (defScope s_table_check) .none kV_table_check doc_table_check pm_table_check an_table_check cdv_table_check ct_table_check), osl_table_check⟩) (c_table_check : PySem.W.codeIn K cdv_table_check "table_check" = true) (k_table_check : PySem.W.keepIn K (.ref f_table_check) = true) (a_had_without : PySem.W.nsIn K mainGlobals "had_without" = some (some (.ref f_had_without))) (l_had_without : K.lookup f_had_without = some ⟨oc_had_without, od_had_without, .func (PySem.W.fnOf "had_without" "had_without" (defArgs s_had_without) (defBody s_had_without) (defScope s_had_without) .none kV_had_without doc_had_without pm_had_without an_had_without cdv_had_without ct_had_without), osl_had_without⟩) (c_had_without : PySem.W.codeIn K cdv_had_without "had_without" = true) (k_had_without : PySem.W.keepIn K (.ref f_had_without) = true) (a_cuts_check : PySem.W.nsIn K mainGlobals "cuts_check" = some (some (.ref f_cuts_check))) (l_cuts_check : K.lookup f_cuts_check = some ⟨oc_cuts_check, od_cuts_check, .func (PySem.W.fnOf "cuts_check" "cuts_check" (defArgs s_cuts_check) (defBody s_cuts_check) (defScope s_cuts_check) .none kV_cuts_check doc_cuts_check pm_cuts_check an_cuts_check cdv_cuts_check ct_cuts_check), osl_cuts_check⟩) (c_cuts_check : PySem.W.codeIn K cdv_cuts_check "cuts_check" = true) (k_cuts_check : PySem.W.keepIn K (.ref f_cuts_check) = true) (a_set_check : PySem.W.nsIn K mainGlobals "set_check" = some (some (.ref f_set_check))) (l_set_check : K.lookup f_set_check = some ⟨oc_set_check, od_set_check, .func (PySem.W.fnOf "set_check" "set_check" (defArgs s_set_check) (defBody s_set_check) (defScope s_set_check) .none kV_set_check doc_set_check pm_set_check an_set_check cdv_set_check ct_set_check), osl_set_check⟩) (c_set_check : PySem.W.codeIn K cdv_set_check "set_check" = true) (k_set_check : PySem.W.keepIn K (.ref f_set_check) = true) (a_is_true : PySem.W.nsIn K mainGlobals "is_true" = some (some (.ref f_is_true))) (l_is_true : K.lookup f_is_true = some ⟨oc_is_true, od_is_true, .func (PySem.W.fnOf "is_true" "is_true" (defArgs s_is_true) (defBody s_is_true) (defScope s_is_true) .none kV_is_true doc_is_true pm_is_true an_is_true cdv_is_true ct_is_true), osl_is_true⟩) (c_is_true : PySem.W.codeIn K cdv_is_true "is_true" = true) (k_is_true : PySem.W.keepIn K (.ref f_is_true) = true) (a_holds : PySem.W.nsIn K mainGlobals "holds" = some (some (.ref f_holds))) (l_holds : K.lookup f_holds = some ⟨oc_holds, od_holds, .func (PySem.W.fnOf "holds" "holds" (defArgs s_holds) (defBody s_holds) (defScope s_holds) .none kV_holds doc_holds pm_holds an_holds cdv_holds ct_holds), osl_holds⟩) (c_holds : PySem.W.codeIn K cdv_holds "holds" = true) (k_holds : PySem.W.keepIn K (.ref f_holds) = true) (a_first_broken : PySem.W.nsIn K mainGlobals "first_broken" = some (some (.ref f_first_broken))) (l_first_broken : K.lookup f_first_broken = some ⟨oc_first_broken, od_first_broken, .func (PySem.W.fnOf "first_broken" "first_broken" (defArgs s_first_broken) (defBody s_first_broken) (defScope s_first_broken) .none kV_first_broken doc_first_broken pm_first_broken an_first_broken cdv_first_broken ct_first_broken), osl_first_broken⟩) (c_first_broken : PySem.W.codeIn K cdv_first_broken "first_broken" = true) (k_first_broken : PySem.W.keepIn K (.ref f_first_broken) = true) (a_clauses_check : PySem.W.nsIn K mainGlobals "clauses_check" = some (some (.ref f_clauses_check))) (l_clauses_check : K.lookup f_clauses_check = some ⟨oc_clauses_check, od_clauses_check, .func (PySem.W.fnOf "clauses_check" "clauses_check" (defArgs s_clauses_check) (defBody s_clauses_check) (defScope s_clauses_check) .none kV_clauses_check doc_clauses_check pm_clauses_check an_clauses_check cdv_clauses_check ct_clauses_check), osl_clauses_check⟩) (c_clauses_check : PySem.W.codeIn K cdv_clauses_check "clauses_check" = true) (k_clauses_check : PySem.W.keepIn K (.ref f_clauses_check) = true) (a_pair_check : PySem.W.nsIn K mainGlobals "pair_check" = some (some (.ref f_pair_check))) (l_pair_check : K.lookup f_pair_check = some ⟨oc_pair_check, od_pair_check, .func (PySem.W.fnOf "pair_check" "pair_check" (defArgs s_pair_check) (defBody s_pair_check) (defScope s_pair_check) .none kV_pair_check doc_pair_check pm_pair_check an_pair_check cdv_pair_check ct_pair_check), osl_pair_check⟩) (c_pair_check : PySem.W.codeIn K cdv_pair_check "pair_check" = true) (k_pair_check : PySem.W.keepIn K (.ref f_pair_check) = true) (a_clauses_in_order : PySem.W.nsIn K mainGlobals "clauses_in_order" = some (some (.ref f_clauses_in_order))) (l_clauses_in_order : K.lookup f_clauses_in_order = some ⟨oc_clauses_in_order, od_clauses_in_order, .func (PySem.W.fnOf "clauses_in_order" "clauses_in_order" (defArgs s_clauses_in_order) (defBody s_clauses_in_order) (defScope s_clauses_in_order) .none kV_clauses_in_order doc_clauses_in_order pm_clauses_in_order an_clauses_in_order cdv_clauses_in_order ct_clauses_in_order), osl_clauses_in_order⟩) (c_clauses_in_order : PySem.W.codeIn K cdv_clauses_in_order "clauses_in_order" = true) (k_clauses_in_order : PySem.W.keepIn K (.ref f_clauses_in_order) = true) (a_rows_in_order : PySem.W.nsIn K mainGlobals "rows_in_order" = some (some (.ref f_rows_in_order))) (l_rows_in_order : K.lookup f_rows_in_order = some ⟨oc_rows_in_order, od_rows_in_order, .func (PySem.W.fnOf "rows_in_order" "rows_in_order" (defArgs s_rows_in_order) (defBody s_rows_in_order) (defScope s_rows_in_order) .none kV_rows_in_order doc_rows_in_order pm_rows_in_order an_rows_in_order cdv_rows_in_order ct_rows_in_order), osl_rows_in_order⟩) (c_rows_in_order : PySem.W.codeIn K cdv_rows_in_order "rows_in_order" = true) (k_rows_in_order : PySem.W.keepIn K (.ref f_rows_in_order) = true) (a_find_clauses : PySem.W.nsIn K mainGlobals "find_clauses" = some (some (.ref f_find_clauses))) (l_find_clauses : K.lookup f_find_clauses = some ⟨oc_find_clauses, od_find_clauses, .func (PySem.W.fnOf "find_clauses" "find_clauses" (defArgs s_find_clauses) (defBody s_find_clauses) (defScope s_find_clauses) .none kV_find_clauses doc_find_clauses pm_find_clauses an_find_clauses cdv_find_clauses ct_find_clauses), osl_find_clauses⟩) (c_find_clauses : PySem.W.codeIn K cdv_find_clauses "find_clauses" = true) (k_find_clauses : PySem.W.keepIn K (.ref f_find_clauses) = true) (a_Eased___init__ : PySem.W.findIn K (.ref C_Eased) "__init__" = some (some (.ref f_Eased___init__))) (i_Eased___init__ : PySem.W.isFn K (.ref f_Eased___init__) = true) (l_Eased___init__ : K.lookup f_Eased___init__ = some ⟨oc_Eased___init__, od_Eased___init__, .func (PySem.W.fnOf "__init__" "Eased.__init__" (defArgs s_Eased___init__) (defBody s_Eased___init__) (defScope s_Eased___init__) .none kV_Eased___init__ doc_Eased___init__ pm_Eased___init__ an_Eased___init__ cdv_Eased___init__ ct_Eased___init__), osl_Eased___init__⟩) (c_Eased___init__ : PySem.W.codeIn K cdv_Eased___init__ "Eased.__init__" = true) (k_Eased___init__ : PySem.W.keepIn K (.ref f_Eased___init__) = true) (a_facts_in : PySem.W.nsIn K mainGlobals "facts_in" = some (some (.ref f_facts_in))) (l_facts_in : K.lookup f_facts_in = some ⟨oc_facts_in, od_facts_in, .func (PySem.W.fnOf "facts_in" "facts_in" (defArgs s_facts_in) (defBody s_facts_in) (defScope s_facts_in) .none kV_facts_in doc_facts_in pm_facts_in an_facts_in cdv_facts_in ct_facts_in), osl_facts_in⟩) (c_facts_in : PySem.W.codeIn K cdv_facts_in "facts_in" = true) (k_facts_in : PySem.W.keepIn K (.ref f_facts_in) = true) (a_row_worth : PySem.W.nsIn K mainGlobals "row_worth" = some (some (.ref f_row_worth))) (l_row_worth : K.lookup f_row_worth = some ⟨oc_row_worth, od_row_worth, .func (PySem.W.fnOf "row_worth" "row_worth" (defArgs s_row_worth) (defBody s_row_worth) (defScope s_row_worth) .none kV_row_worth doc_row_worth pm_row_worth an_row_worth cdv_row_worth ct_row_worth), osl_row_worth⟩) (c_row_worth : PySem.W.codeIn K cdv_row_worth "row_worth" = true) (k_row_worth : PySem.W.keepIn K (.ref f_row_worth) = true) (a_fact_worth : PySem.W.nsIn K mainGlobals "fact_worth" = some (some (.ref f_fact_worth))) (l_fact_worth : K.lookup f_fact_worth = some ⟨oc_fact_worth, od_fact_worth, .func (PySem.W.fnOf "fact_worth" "fact_worth" (defArgs s_fact_worth) (defBody s_fact_worth) (defScope s_fact_worth) .none kV_fact_worth doc_fact_worth pm_fact_worth an_fact_worth cdv_fact_worth ct_fact_worth), osl_fact_worth⟩) (c_fact_worth : PySem.W.codeIn K cdv_fact_worth "fact_worth" = true) (k_fact_worth : PySem.W.keepIn K (.ref f_fact_worth) = true) (a_fact_worths : PySem.W.nsIn K mainGlobals "fact_worths" = some (some (.ref f_fact_worths))) (l_fact_worths : K.lookup f_fact_worths = some ⟨oc_fact_worths, od_fact_worths, .func (PySem.W.fnOf "fact_worths" "fact_worths" (defArgs s_fact_worths) (defBody s_fact_worths) (defScope s_fact_worths) .none kV_fact_worths doc_fact_worths pm_fact_worths an_fact_worths cdv_fact_worths ct_fact_worths), osl_fact_worths⟩) (c_fact_worths : PySem.W.codeIn K cdv_fact_worths "fact_worths" = true) (k_fact_worths : PySem.W.keepIn K (.ref f_fact_worths) = true) (a_Cut___init__ : PySem.W.findIn K (.ref C_Cut) "__init__" = some (some (.ref f_Cut___init__))) (i_Cut___init__ : PySem.W.isFn K (.ref f_Cut___init__) = true) (l_Cut___init__ : K.lookup f_Cut___init__ = some ⟨oc_Cut___init__, od_Cut___init__, .func (PySem.W.fnOf "__init__" "Cut.__init__" (defArgs s_Cut___init__) (defBody s_Cut___init__) (defScope s_Cut___init__) .none kV_Cut___init__ doc_Cut___init__ pm_Cut___init__ an_Cut___init__ cdv_Cut___init__ ct_Cut___init__), osl_Cut___init__⟩) (c_Cut___init__ : PySem.W.codeIn K cdv_Cut___init__ "Cut.__init__" = true) (k_Cut___init__ : PySem.W.keepIn K (.ref f_Cut___init__) = true) (a_dear_fact : PySem.W.nsIn K mainGlobals "dear_fact" = some (some (.ref f_dear_fact))) (l_dear_fact : K.lookup f_dear_fact = some ⟨oc_dear_fact, od_dear_fact, .func (PySem.W.fnOf "dear_fact" "dear_fact" (defArgs s_dear_fact) (defBody s_dear_fact) (defScope s_dear_fact) .none kV_dear_fact doc_dear_fact pm_dear_fact an_dear_fact cdv_dear_fact ct_dear_fact), osl_dear_fact⟩) (c_dear_fact : PySem.W.codeIn K cdv_dear_fact "dear_fact" = true) (k_dear_fact : PySem.W.keepIn K (.ref f_dear_fact) = true) (a_zone_of : PySem.W.nsIn K mainGlobals "zone_of" = some (some (.ref f_zone_of))) (l_zone_of : K.lookup f_zone_of = some ⟨oc_zone_of, od_zone_of, .func (PySem.W.fnOf "zone_of" "zone_of" (defArgs s_zone_of) (defBody s_zone_of) (defScope s_zone_of) .none kV_zone_of doc_zone_of pm_zone_of an_zone_of cdv_zone_of ct_zone_of), osl_zone_of⟩) (c_zone_of : PySem.W.codeIn K cdv_zone_of "zone_of" = true) (k_zone_of : PySem.W.keepIn K (.ref f_zone_of) = true) (a_is_among : PySem.W.nsIn K mainGlobals "is_among" = some (some (.ref f_is_among))) (l_is_among : K.lookup f_is_among = some ⟨oc_is_among, od_is_among, .func (PySem.W.fnOf "is_among" "is_among" (defArgs s_is_among) (defBody s_is_among) (defScope s_is_among) .none kV_is_among doc_is_among pm_is_among an_is_among cdv_is_among ct_is_among), osl_is_among⟩) (c_is_among : PySem.W.codeIn K cdv_is_among "is_among" = true) (k_is_among : PySem.W.keepIn K (.ref f_is_among) = true) (a_before_zone : PySem.W.nsIn K mainGlobals "before_zone" = some (some (.ref f_before_zone))) (l_before_zone : K.lookup f_before_zone = some ⟨oc_before_zone, od_before_zone, .func (PySem.W.fnOf "before_zone" "before_zone" (defArgs s_before_zone) (defBody s_before_zone) (defScope s_before_zone) .none kV_before_zone doc_before_zone pm_before_zone an_before_zone cdv_before_zone ct_before_zone), osl_before_zone⟩) (c_before_zone : PySem.W.codeIn K cdv_before_zone "before_zone" = true) (k_before_zone : PySem.W.keepIn K (.ref f_before_zone) = true) (a_next_cut : PySem.W.nsIn K mainGlobals "next_cut" = some (some (.ref f_next_cut))) (l_next_cut : K.lookup f_next_cut = some ⟨oc_next_cut, od_next_cut, .func (PySem.W.fnOf "next_cut" "next_cut" (defArgs s_next_cut) (defBody s_next_cut) (defScope s_next_cut) .none kV_next_cut doc_next_cut pm_next_cut an_next_cut cdv_next_cut ct_next_cut), osl_next_cut⟩) (c_next_cut : PySem.W.codeIn K cdv_next_cut "next_cut" = true) (k_next_cut : PySem.W.keepIn K (.ref f_next_cut) = true) (a_find_cuts : PySem.W.nsIn K mainGlobals "find_cuts" = some (some (.ref f_find_cuts))) (l_find_cuts : K.lookup f_find_cuts = some ⟨oc_find_cuts, od_find_cuts, .func (PySem.W.fnOf "find_cuts" "find_cuts" (defArgs s_find_cuts) (defBody s_find_cuts) (defScope s_find_cuts) .none kV_find_cuts doc_find_cuts pm_find_cuts an_find_cuts cdv_find_cuts ct_find_cuts), osl_find_cuts⟩) (c_find_cuts : PySem.W.codeIn K cdv_find_cuts "find_cuts" = true) (k_find_cuts : PySem.W.keepIn K (.ref f_find_cuts) = true) (a_cost_through : PySem.W.nsIn K mainGlobals "cost_through" = some (some (.ref f_cost_through))) (l_cost_through : K.lookup f_cost_through = some ⟨oc_cost_through, od_cost_through, .func (PySem.W.fnOf "cost_through" "cost_through" (defArgs s_cost_through) (defBody s_cost_through) (defScope s_cost_through) .none kV_cost_through doc_cost_through pm_cost_through an_cost_through cdv_cost_through ct_cost_through), osl_cost_through⟩) (c_cost_through : PySem.W.codeIn K cdv_cost_through "cost_through" = true) (k_cost_through : PySem.W.keepIn K (.ref f_cost_through) = true) (a_cost_from : PySem.W.nsIn K mainGlobals "cost_from" = some (some (.ref f_cost_from))) (l_cost_from : K.lookup f_cost_from = some ⟨oc_cost_from, od_cost_from, .func (PySem.W.fnOf "cost_from" "cost_from" (defArgs s_cost_from) (defBody s_cost_from) (defScope s_cost_from) .none kV_cost_from doc_cost_from pm_cost_from an_cost_from cdv_cost_from ct_cost_from), osl_cost_from⟩) (c_cost_from : PySem.W.codeIn K cdv_cost_from "cost_from" = true) (k_cost_from : PySem.W.keepIn K (.ref f_cost_from) = true) (a_cheapest_costs : PySem.W.nsIn K mainGlobals "cheapest_costs" = some (some (.ref f_cheapest_costs))) (l_cheapest_costs : K.lookup f_cheapest_costs = some ⟨oc_cheapest_costs, od_cheapest_costs, .func (PySem.W.fnOf "cheapest_costs" "cheapest_costs" (defArgs s_cheapest_costs) (defBody s_cheapest_costs) (defScope s_cheapest_costs) .none kV_cheapest_costs doc_cheapest_costs pm_cheapest_costs an_cheapest_costs cdv_cheapest_costs ct_cheapest_costs), osl_cheapest_costs⟩) (c_cheapest_costs : PySem.W.codeIn K cdv_cheapest_costs "cheapest_costs" = true) (k_cheapest_costs : PySem.W.keepIn K (.ref f_cheapest_costs) = true) (a_first_step : PySem.W.nsIn K mainGlobals "first_step" = some (some (.ref f_first_step))) (l_first_step : K.lookup f_first_step = some ⟨oc_first_step, od_first_step, .func (PySem.W.fnOf "first_step" "first_step" (defArgs s_first_step) (defBody s_first_step) (defScope s_first_step) .none kV_first_step doc_first_step pm_first_step an_first_step cdv_first_step ct_first_step), osl_first_step⟩) (c_first_step : PySem.W.codeIn K cdv_first_step "first_step" = true) (k_first_step : PySem.W.keepIn K (.ref f_first_step) = true) (a_first_cheapest_plan : PySem.W.nsIn K mainGlobals "first_cheapest_plan" = some (some (.ref f_first_cheapest_plan))) (l_first_cheapest_plan : K.lookup f_first_cheapest_plan = some ⟨oc_first_cheapest_plan, od_first_cheapest_plan, .func (PySem.W.fnOf "first_cheapest_plan" "first_cheapest_plan" (defArgs s_first_cheapest_plan) (defBody s_first_cheapest_plan) (defScope s_first_cheapest_plan) .none kV_first_cheapest_plan doc_first_cheapest_plan pm_first_cheapest_plan an_first_cheapest_plan cdv_first_cheapest_plan ct_first_cheapest_plan), osl_first_cheapest_plan⟩) (c_first_cheapest_plan : PySem.W.codeIn K cdv_first_cheapest_plan "first_cheapest_plan" = true) (k_first_cheapest_plan : PySem.W.keepIn K (.ref f_first_cheapest_plan) = true) (a_states_behind : PySem.W.nsIn K mainGlobals "states_behind" = some (some (.ref f_states_behind))) (l_states_behind : K.lookup f_states_behind = some ⟨oc_states_behind, od_states_behind, .func (PySem.W.fnOf "states_behind" "states_behind" (defArgs s_states_behind) (defBody s_states_behind) (defScope s_states_behind) .none kV_states_behind doc_states_behind pm_states_behind an_states_behind cdv_states_behind ct_states_behind), osl_states_behind⟩) (c_states_behind : PySem.W.codeIn K cdv_states_behind "states_behind" = true) (k_states_behind : PySem.W.keepIn K (.ref f_states_behind) = true) (a_states_come_to : PySem.W.nsIn K mainGlobals "states_come_to" = some (some (.ref f_states_come_to))) (l_states_come_to : K.lookup f_states_come_to = some ⟨oc_states_come_to, od_states_come_to, .func (PySem.W.fnOf "states_come_to" "states_come_to" (defArgs s_states_come_to) (defBody s_states_come_to) (defScope s_states_come_to) .none kV_states_come_to doc_states_come_to pm_states_come_to an_states_come_to cdv_states_come_to ct_states_come_to), osl_states_come_to⟩) (c_states_come_to : PySem.W.codeIn K cdv_states_come_to "states_come_to" = true) (k_states_come_to : PySem.W.keepIn K (.ref f_states_come_to) = true) (a_is_kind : PySem.W.nsIn K mainGlobals "is_kind" = some (some (.ref f_is_kind))) (l_is_kind : K.lookup f_is_kind = some ⟨oc_is_kind, od_is_kind, .func (PySem.W.fnOf "is_kind" "is_kind" (defArgs s_is_kind) (defBody s_is_kind) (defScope s_is_kind) .none kV_is_kind doc_is_kind pm_is_kind an_is_kind cdv_is_kind ct_is_kind), osl_is_kind⟩) (c_is_kind : PySem.W.codeIn K cdv_is_kind "is_kind" = true) (k_is_kind : PySem.W.keepIn K (.ref f_is_kind) = true) (a_own_plan : PySem.W.nsIn K mainGlobals "own_plan" = some (some (.ref f_own_plan))) (l_own_plan : K.lookup f_own_plan = some ⟨oc_own_plan, od_own_plan, .func (PySem.W.fnOf "own_plan" "own_plan" (defArgs s_own_plan) (defBody s_own_plan) (defScope s_own_plan) .none kV_own_plan doc_own_plan pm_own_plan an_own_plan cdv_own_plan ct_own_plan), osl_own_plan⟩) (c_own_plan : PySem.W.codeIn K cdv_own_plan "own_plan" = true) (k_own_plan : PySem.W.keepIn K (.ref f_own_plan) = true) (a_own_table : PySem.W.nsIn K mainGlobals "own_table" = some (some (.ref f_own_table))) (l_own_table : K.lookup f_own_table = some ⟨oc_own_table, od_own_table, .func (PySem.W.fnOf "own_table" "own_table" (defArgs s_own_table) (defBody s_own_table) (defScope s_own_table) .none kV_own_table doc_own_table pm_own_table an_own_table cdv_own_table ct_own_table), osl_own_table⟩) (c_own_table : PySem.W.codeIn K cdv_own_table "own_table" = true) (k_own_table : PySem.W.keepIn K (.ref f_own_table) = true) (a_own_cuts : PySem.W.nsIn K mainGlobals "own_cuts" = some (some (.ref f_own_cuts))) (l_own_cuts : K.lookup f_own_cuts = some ⟨oc_own_cuts, od_own_cuts, .func (PySem.W.fnOf "own_cuts" "own_cuts" (defArgs s_own_cuts) (defBody s_own_cuts) (defScope s_own_cuts) .none kV_own_cuts doc_own_cuts pm_own_cuts an_own_cuts cdv_own_cuts ct_own_cuts), osl_own_cuts⟩) (c_own_cuts : PySem.W.codeIn K cdv_own_cuts "own_cuts" = true) (k_own_cuts : PySem.W.keepIn K (.ref f_own_cuts) = true) (a_own_states : PySem.W.nsIn K mainGlobals "own_states" = some (some (.ref f_own_states))) (l_own_states : K.lookup f_own_states = some ⟨oc_own_states, od_own_states, .func (PySem.W.fnOf "own_states" "own_states" (defArgs s_own_states) (defBody s_own_states) (defScope s_own_states) .none kV_own_states doc_own_states pm_own_states an_own_states cdv_own_states ct_own_states), osl_own_states⟩) (c_own_states : PySem.W.codeIn K cdv_own_states "own_states" = true) (k_own_states : PySem.W.keepIn K (.ref f_own_states) = true) (a_own_clauses : PySem.W.nsIn K mainGlobals "own_clauses" = some (some (.ref f_own_clauses))) (l_own_clauses : K.lookup f_own_clauses = some ⟨oc_own_clauses, od_own_clauses, .func (PySem.W.fnOf "own_clauses" "own_clauses" (defArgs s_own_clauses) (defBody s_own_clauses) (defScope s_own_clauses) .none kV_own_clauses doc_own_clauses pm_own_clauses an_own_clauses cdv_own_clauses ct_own_clauses), osl_own_clauses⟩) (c_own_clauses : PySem.W.codeIn K cdv_own_clauses "own_clauses" = true) (k_own_clauses : PySem.W.keepIn K (.ref f_own_clauses) = true) (a_own_proof : PySem.W.nsIn K mainGlobals "own_proof" = some (some (.ref f_own_proof))) (l_own_proof : K.lookup f_own_proof = some ⟨oc_own_proof, od_own_proof, .func (PySem.W.fnOf "own_proof" "own_proof" (defArgs s_own_proof) (defBody s_own_proof) (defScope s_own_proof) .none kV_own_proof doc_own_proof pm_own_proof an_own_proof cdv_own_proof ct_own_proof), osl_own_proof⟩) (c_own_proof : PySem.W.codeIn K cdv_own_proof "own_proof" = true) (k_own_proof : PySem.W.keepIn K (.ref f_own_proof) = true) (a_Call___init__ : PySem.W.findIn K (.ref C_Call) "__init__" = some (some (.ref f_Call___init__))) (i_Call___init__ : PySem.W.isFn K (.ref f_Call___init__) = true) (l_Call___init__ : K.lookup f_Call___init__ = some ⟨oc_Call___init__, od_Call___init__, .func (PySem.W.fnOf "__init__" "Call.__init__" (defArgs s_Call___init__) (defBody s_Call___init__) (defScope s_Call___init__) .none kV_Call___init__ doc_Call___init__ pm_Call___init__ an_Call___init__ cdv_Call___init__ ct_Call___init__), osl_Call___init__⟩) (c_Call___init__ : PySem.W.codeIn K cdv_Call___init__ "Call.__init__" = true) (k_Call___init__ : PySem.W.keepIn K (.ref f_Call___init__) = true) (a_counted : PySem.W.nsIn K mainGlobals "counted" = some (some (.ref f_counted))) (l_counted : K.lookup f_counted = some ⟨oc_counted, od_counted, .func (PySem.W.fnOf "counted" "counted" (defArgs s_counted) (defBody s_counted) (defScope s_counted) .none kV_counted doc_counted pm_counted an_counted cdv_counted ct_counted), osl_counted⟩) (c_counted : PySem.W.codeIn K cdv_counted "counted" = true) (k_counted : PySem.W.keepIn K (.ref f_counted) = true) (a_read_calls : PySem.W.nsIn K mainGlobals "read_calls" = some (some (.ref f_read_calls))) (l_read_calls : K.lookup f_read_calls = some ⟨oc_read_calls, od_read_calls, .func (PySem.W.fnOf "read_calls" "read_calls" (defArgs s_read_calls) (defBody s_read_calls) (defScope s_read_calls) .none kV_read_calls doc_read_calls pm_read_calls an_read_calls cdv_read_calls ct_read_calls), osl_read_calls⟩) (c_read_calls : PySem.W.codeIn K cdv_read_calls "read_calls" = true) (k_read_calls : PySem.W.keepIn K (.ref f_read_calls) = true) (a_is_act_row : PySem.W.nsIn K mainGlobals "is_act_row" = some (some (.ref f_is_act_row))) (l_is_act_row : K.lookup f_is_act_row = some ⟨oc_is_act_row, od_is_act_row, .func (PySem.W.fnOf "is_act_row" "is_act_row" (defArgs s_is_act_row) (defBody s_is_act_row) (defScope s_is_act_row) .none kV_is_act_row doc_is_act_row pm_is_act_row an_is_act_row cdv_is_act_row ct_is_act_row), osl_is_act_row⟩) (c_is_act_row : PySem.W.codeIn K cdv_is_act_row "is_act_row" = true) (k_is_act_row : PySem.W.keepIn K (.ref f_is_act_row) = true) (a_are_below : PySem.W.nsIn K mainGlobals "are_below" = some (some (.ref f_are_below))) (l_are_below : K.lookup f_are_below = some ⟨oc_are_below, od_are_below, .func (PySem.W.fnOf "are_below" "are_below" (defArgs s_are_below) (defBody s_are_below) (defScope s_are_below) .none kV_are_below doc_are_below pm_are_below an_are_below cdv_are_below ct_are_below), osl_are_below⟩) (c_are_below : PySem.W.codeIn K cdv_are_below "are_below" = true) (k_are_below : PySem.W.keepIn K (.ref f_are_below) = true) (a_is_cut : PySem.W.nsIn K mainGlobals "is_cut" = some (some (.ref f_is_cut))) (l_is_cut : K.lookup f_is_cut = some ⟨oc_is_cut, od_is_cut, .func (PySem.W.fnOf "is_cut" "is_cut" (defArgs s_is_cut) (defBody s_is_cut) (defScope s_is_cut) .none kV_is_cut doc_is_cut pm_is_cut an_is_cut cdv_is_cut ct_is_cut), osl_is_cut⟩) (c_is_cut : PySem.W.codeIn K cdv_is_cut "is_cut" = true) (k_is_cut : PySem.W.keepIn K (.ref f_is_cut) = true) (a_House___init__ : PySem.W.findIn K (.ref C_House) "__init__" = some (some (.ref f_House___init__))) (i_House___init__ : PySem.W.isFn K (.ref f_House___init__) = true) (l_House___init__ : K.lookup f_House___init__ = some ⟨oc_House___init__, od_House___init__, .func (PySem.W.fnOf "__init__" "House.__init__" (defArgs s_House___init__) (defBody s_House___init__) (defScope s_House___init__) .none kV_House___init__ doc_House___init__ pm_House___init__ an_House___init__ cdv_House___init__ ct_House___init__), osl_House___init__⟩) (c_House___init__ : PySem.W.codeIn K cdv_House___init__ "House.__init__" = true) (k_House___init__ : PySem.W.keepIn K (.ref f_House___init__) = true) (a_House_begins : PySem.W.findIn K (.ref C_House) "begins" = some (some (.ref f_House_begins))) (i_House_begins : PySem.W.isFn K (.ref f_House_begins) = true) (l_House_begins : K.lookup f_House_begins = some ⟨oc_House_begins, od_House_begins, .func (PySem.W.fnOf "begins" "House.begins" (defArgs s_House_begins) (defBody s_House_begins) (defScope s_House_begins) .none kV_House_begins doc_House_begins pm_House_begins an_House_begins cdv_House_begins ct_House_begins), osl_House_begins⟩) (c_House_begins : PySem.W.codeIn K cdv_House_begins "House.begins" = true) (k_House_begins : PySem.W.keepIn K (.ref f_House_begins) = true) (a_House_act : PySem.W.findIn K (.ref C_House) "act" = some (some (.ref f_House_act))) (i_House_act : PySem.W.isFn K (.ref f_House_act) = true) (l_House_act : K.lookup f_House_act = some ⟨oc_House_act, od_House_act, .func (PySem.W.fnOf "act" "House.act" (defArgs s_House_act) (defBody s_House_act) (defScope s_House_act) .none kV_House_act doc_House_act pm_House_act an_House_act cdv_House_act ct_House_act), osl_House_act⟩) (c_House_act : PySem.W.codeIn K cdv_House_act "House.act" = true) (k_House_act : PySem.W.keepIn K (.ref f_House_act) = true) (a_House_from_state : PySem.W.findIn K (.ref C_House) "from_state" = some (some (.ref f_House_from_state))) (i_House_from_state : PySem.W.isFn K (.ref f_House_from_state) = true) (l_House_from_state : K.lookup f_House_from_state = some ⟨oc_House_from_state, od_House_from_state, .func (PySem.W.fnOf "from_state" "House.from_state" (defArgs s_House_from_state) (defBody s_House_from_state) (defScope s_House_from_state) .none kV_House_from_state doc_House_from_state pm_House_from_state an_House_from_state cdv_House_from_state ct_House_from_state), osl_House_from_state⟩) (c_House_from_state : PySem.W.codeIn K cdv_House_from_state "House.from_state" = true) (k_House_from_state : PySem.W.keepIn K (.ref f_House_from_state) = true) (a_House_own : PySem.W.findIn K (.ref C_House) "own" = some (some (.ref f_House_own))) (i_House_own : PySem.W.isFn K (.ref f_House_own) = true) (l_House_own : K.lookup f_House_own = some ⟨oc_House_own, od_House_own, .func (PySem.W.fnOf "own" "House.own" (defArgs s_House_own) (defBody s_House_own) (defScope s_House_own) .none kV_House_own doc_House_own pm_House_own an_House_own cdv_House_own ct_House_own), osl_House_own⟩) (c_House_own : PySem.W.codeIn K cdv_House_own "House.own" = true) (k_House_own : PySem.W.keepIn K (.ref f_House_own) = true) (a_House_plan : PySem.W.findIn K (.ref C_House) "plan" = some (some (.ref f_House_plan))) (i_House_plan : PySem.W.isFn K (.ref f_House_plan) = true) (l_House_plan : K.lookup f_House_plan = some ⟨oc_House_plan, od_House_plan, .func (PySem.W.fnOf "plan" "House.plan" (defArgs s_House_plan) (defBody s_House_plan) (defScope s_House_plan) .none kV_House_plan doc_House_plan pm_House_plan an_House_plan cdv_House_plan ct_House_plan), osl_House_plan⟩) (c_House_plan : PySem.W.codeIn K cdv_House_plan "House.plan" = true) (k_House_plan : PySem.W.keepIn K (.ref f_House_plan) = true) (a_House_table : PySem.W.findIn K (.ref C_House) "table" = some (some (.ref f_House_table))) (i_House_table : PySem.W.isFn K (.ref f_House_table) = true) (l_House_table : K.lookup f_House_table = some ⟨oc_House_table, od_House_table, .func (PySem.W.fnOf "table" "House.table" (defArgs s_House_table) (defBody s_House_table) (defScope s_House_table) .none kV_House_table doc_House_table pm_House_table an_House_table cdv_House_table ct_House_table), osl_House_table⟩) (c_House_table : PySem.W.codeIn K cdv_House_table "House.table" = true) (k_House_table : PySem.W.keepIn K (.ref f_House_table) = true) (a_House_cuts : PySem.W.findIn K (.ref C_House) "cuts" = some (some (.ref f_House_cuts))) (i_House_cuts : PySem.W.isFn K (.ref f_House_cuts) = true) (l_House_cuts : K.lookup f_House_cuts = some ⟨oc_House_cuts, od_House_cuts, .func (PySem.W.fnOf "cuts" "House.cuts" (defArgs s_House_cuts) (defBody s_House_cuts) (defScope s_House_cuts) .none kV_House_cuts doc_House_cuts pm_House_cuts an_House_cuts cdv_House_cuts ct_House_cuts), osl_House_cuts⟩) (c_House_cuts : PySem.W.codeIn K cdv_House_cuts "House.cuts" = true) (k_House_cuts : PySem.W.keepIn K (.ref f_House_cuts) = true) (a_House_state_set : PySem.W.findIn K (.ref C_House) "state_set" = some (some (.ref f_House_state_set))) (i_House_state_set : PySem.W.isFn K (.ref f_House_state_set) = true) (l_House_state_set : K.lookup f_House_state_set = some ⟨oc_House_state_set, od_House_state_set, .func (PySem.W.fnOf "state_set" "House.state_set" (defArgs s_House_state_set) (defBody s_House_state_set) (defScope s_House_state_set) .none kV_House_state_set doc_House_state_set pm_House_state_set an_House_state_set cdv_House_state_set ct_House_state_set), osl_House_state_set⟩) (c_House_state_set : PySem.W.codeIn K cdv_House_state_set "House.state_set" = true) (k_House_state_set : PySem.W.keepIn K (.ref f_House_state_set) = true) (a_House_clauses : PySem.W.findIn K (.ref C_House) "clauses" = some (some (.ref f_House_clauses))) (i_House_clauses : PySem.W.isFn K (.ref f_House_clauses) = true) (l_House_clauses : K.lookup f_House_clauses = some ⟨oc_House_clauses, od_House_clauses, .func (PySem.W.fnOf "clauses" "House.clauses" (defArgs s_House_clauses) (defBody s_House_clauses) (defScope s_House_clauses) .none kV_House_clauses doc_House_clauses pm_House_clauses an_House_clauses cdv_House_clauses ct_House_clauses), osl_House_clauses⟩) (c_House_clauses : PySem.W.codeIn K cdv_House_clauses "House.clauses" = true) (k_House_clauses : PySem.W.keepIn K (.ref f_House_clauses) = true) (a_House_pair : PySem.W.findIn K (.ref C_House) "pair" = some (some (.ref f_House_pair))) (i_House_pair : PySem.W.isFn K (.ref f_House_pair) = true) (l_House_pair : K.lookup f_House_pair = some ⟨oc_House_pair, od_House_pair, .func (PySem.W.fnOf "pair" "House.pair" (defArgs s_House_pair) (defBody s_House_pair) (defScope s_House_pair) .none kV_House_pair doc_House_pair pm_House_pair an_House_pair cdv_House_pair ct_House_pair), osl_House_pair⟩) (c_House_pair : PySem.W.codeIn K cdv_House_pair "House.pair" = true) (k_House_pair : PySem.W.keepIn K (.ref f_House_pair) = true) (a_answer : PySem.W.nsIn K mainGlobals "answer" = some (some (.ref f_answer))) (l_answer : K.lookup f_answer = some ⟨oc_answer, od_answer, .func (PySem.W.fnOf "answer" "answer" (defArgs s_answer) (defBody s_answer) (defScope s_answer) .none kV_answer doc_answer pm_answer an_answer cdv_answer ct_answer), osl_answer⟩) (c_answer : PySem.W.codeIn K cdv_answer "answer" = true) (k_answer : PySem.W.keepIn K (.ref f_answer) = true) (a_answers : PySem.W.nsIn K mainGlobals "answers" = some (some (.ref f_answers))) (l_answers : K.lookup f_answers = some ⟨oc_answers, od_answers, .func (PySem.W.fnOf "answers" "answers" (defArgs s_answers) (defBody s_answers) (defScope s_answers) .none kV_answers doc_answers pm_answers an_answers cdv_answers ct_answers), osl_answers⟩) (c_answers : PySem.W.codeIn K cdv_answers "answers" = true) (k_answers : PySem.W.keepIn K (.ref f_answers) = true) (z_len : PySem.W.nsIn K mainGlobals "len" = some none) (z_range : PySem.W.nsIn K mainGlobals "range" = some none) (z_list : PySem.W.nsIn K mainGlobals "list" = some none) (z_enumerate : PySem.W.nsIn K mainGlobals "enumerate" = some none) (z_min : PySem.W.nsIn K mainGlobals "min" = some none) (z_max : PySem.W.nsIn K mainGlobals "max" = some none) (z_sum : PySem.W.nsIn K mainGlobals "sum" = some none) (z_any : PySem.W.nsIn K mainGlobals "any" = some none) (z_all : PySem.W.nsIn K mainGlobals "all" = some none) (z_sorted : PySem.W.nsIn K mainGlobals "sorted" = some none) (v_PLAN_own : PySem.W.nsIn K mainGlobals "PLAN_own" = some (some (.int 0 tk_PLAN_own))) (v_TABLE_own : PySem.W.nsIn K mainGlobals "TABLE_own" = some (some (.int 1 tk_TABLE_own))) (v_CUTS_own : PySem.W.nsIn K mainGlobals "CUTS_own" = some (some (.int 2 tk_CUTS_own))) (v_STATES : PySem.W.nsIn K mainGlobals "STATES" = some (some (.int 3 tk_STATES))) (v_CLAUSES_own : PySem.W.nsIn K mainGlobals "CLAUSES_own" = some (some (.int 4 tk_CLAUSES_own))) (v_MOST_FACTS : PySem.W.nsIn K mainGlobals "MOST_FACTS" = some (some (.int 4 tk_MOST_FACTS))) (v_MOST_ACTS : PySem.W.nsIn K mainGlobals "MOST_ACTS" = some (some (.int 8 tk_MOST_ACTS))) (v_MOST_COST : PySem.W.nsIn K mainGlobals "MOST_COST" = some (some (.int 1000 tk_MOST_COST))) (v_BEGINS : PySem.W.nsIn K mainGlobals "BEGINS" = some (some (.int 0 tk_BEGINS))) (v_ACT : PySem.W.nsIn K mainGlobals "ACT" = some (some (.int 1 tk_ACT))) (v_FROM_STATE : PySem.W.nsIn K mainGlobals "FROM_STATE" = some (some (.int 2 tk_FROM_STATE))) (v_OWN : PySem.W.nsIn K mainGlobals "OWN" = some (some (.int 3 tk_OWN))) (v_PLAN_house : PySem.W.nsIn K mainGlobals "PLAN_house" = some (some (.int 4 tk_PLAN_house))) (v_TABLE_house : PySem.W.nsIn K mainGlobals "TABLE_house" = some (some (.int 5 tk_TABLE_house))) (v_CUTS_house : PySem.W.nsIn K mainGlobals "CUTS_house" = some (some (.int 6 tk_CUTS_house))) (v_SET : PySem.W.nsIn K mainGlobals "SET" = some (some (.int 7 tk_SET))) (v_CLAUSES_house : PySem.W.nsIn K mainGlobals "CLAUSES_house" = some (some (.int 8 tk_CLAUSES_house))) :
    ∃ fd : FuncData, (∀ (s : Shared) (us : List Value), us.length = (["calls"] : List Str).length → BindsTo s fd ⟨us, []⟩ ((["calls"] : List Str).zip us)) ∧ ∀ base : Heap, K.In base → base.Ns mainGlobals mg → FnOk P w K mg base CX0 10 fa fd ["calls"] (spAns0 K) := by
  have e := hfa.symm.trans (PySem.W.mg_of X G a_answers)
  cases e
  have T : Top K mg ⟨C_Act, C_Task, C_Eased, C_Cut, C_Call, C_House⟩ :=
    { b_len := PySem.W.mg_none_of X G z_len, b_range := PySem.W.mg_none_of X G z_range, b_list := PySem.W.mg_none_of X G z_list, b_enumerate := PySem.W.mg_none_of X G z_enumerate, b_min := PySem.W.mg_none_of X G z_min, b_max := PySem.W.mg_none_of X G z_max, b_sum := PySem.W.mg_none_of X G z_sum, b_any := PySem.W.mg_none_of X G z_any, b_all := PySem.W.mg_none_of X G z_all, b_sorted := PySem.W.mg_none_of X G z_sorted, c_PLAN_own := ⟨_, PySem.W.mg_of X G v_PLAN_own⟩, c_TABLE_own := ⟨_, PySem.W.mg_of X G v_TABLE_own⟩, c_CUTS_own := ⟨_, PySem.W.mg_of X G v_CUTS_own⟩, c_STATES := ⟨_, PySem.W.mg_of X G v_STATES⟩, c_CLAUSES_own := ⟨_, PySem.W.mg_of X G v_CLAUSES_own⟩, c_MOST_FACTS := ⟨_, PySem.W.mg_of X G v_MOST_FACTS⟩, c_MOST_ACTS := ⟨_, PySem.W.mg_of X G v_MOST_ACTS⟩, c_MOST_COST := ⟨_, PySem.W.mg_of X G v_MOST_COST⟩, c_BEGINS := ⟨_, PySem.W.mg_of X G v_BEGINS⟩, c_ACT := ⟨_, PySem.W.mg_of X G v_ACT⟩, c_FROM_STATE := ⟨_, PySem.W.mg_of X G v_FROM_STATE⟩, c_OWN := ⟨_, PySem.W.mg_of X G v_OWN⟩, c_PLAN_house := ⟨_, PySem.W.mg_of X G v_PLAN_house⟩, c_TABLE_house := ⟨_, PySem.W.mg_of X G v_TABLE_house⟩, c_CUTS_house := ⟨_, PySem.W.mg_of X G v_CUTS_house⟩, c_SET := ⟨_, PySem.W.mg_of X G v_SET⟩, c_CLAUSES_house := ⟨_, PySem.W.mg_of X G v_CLAUSES_house⟩, cAct := ⟨pg_Act, hd_Act, po_Act, sa_Act⟩, nNeeds := nNeeds_Act, nBars := nBars_Act, nBrings := nBrings_Act, nTakes := nTakes_Act, nCost := nCost_Act, cTask := ⟨pg_Task, hd_Task, po_Task, sa_Task⟩, nFacts := nFacts_Task, nSo := nSo_Task, nWanted := nWanted_Task, nActs := nActs_Task, cEased := ⟨pg_Eased, hd_Eased, po_Eased, sa_Eased⟩, nEnd := nEnd_Eased, nESo := nESo_Eased, nENeeds := nENeeds_Eased, nEBrings := nEBrings_Eased, cCut := ⟨pg_Cut, hd_Cut, po_Cut, sa_Cut⟩, nWorth := nWorth_Cut, nCActs := nCActs_Cut, cCall := ⟨pg_Call, hd_Call, po_Call, sa_Call⟩, nNumber := nNumber_Call, nNumbers := nNumbers_Call, nLists := nLists_Call, cHouse := ⟨pg_House, hd_House, po_House, sa_House⟩, nTask := nTask_House }
  have F_Act___init__ := fun_mk (st := s_Act___init__) l_Act___init__ c_Act___init__ k_Act___init__
  have F_Task___init__ := fun_mk (st := s_Task___init__) l_Task___init__ c_Task___init__ k_Task___init__
  have F_are_there := fun_mk (st := s_are_there) l_are_there c_are_there k_are_there
  have F_states_of := fun_mk (st := s_states_of) l_states_of c_states_of k_states_of
  have F_as_wanted := fun_mk (st := s_as_wanted) l_as_wanted c_as_wanted k_as_wanted
  have F_may_be_done := fun_mk (st := s_may_be_done) l_may_be_done c_may_be_done k_may_be_done
  have F_behind := fun_mk (st := s_behind) l_behind c_behind k_behind
  have F_plan_check := fun_mk (st := s_plan_check) l_plan_check c_plan_check k_plan_check
  have F_falls_too_fast := fun_mk (st := s_falls_too_fast) l_falls_too_fast c_falls_too_fast k_falls_too_fast
  have F_table_check := fun_mk (st := s_table_check) l_table_check c_table_check k_table_check
  have F_had_without := fun_mk (st := s_had_without) l_had_without c_had_without k_had_without
  have F_cuts_check := fun_mk (st := s_cuts_check) l_cuts_check c_cuts_check k_cuts_check
  have F_set_check := fun_mk (st := s_set_check) l_set_check c_set_check k_set_check
  have F_is_true := fun_mk (st := s_is_true) l_is_true c_is_true k_is_true
  have F_holds := fun_mk (st := s_holds) l_holds c_holds k_holds
  have F_first_broken := fun_mk (st := s_first_broken) l_first_broken c_first_broken k_first_broken
  have F_clauses_check := fun_mk (st := s_clauses_check) l_clauses_check c_clauses_check k_clauses_check
  have F_pair_check := fun_mk (st := s_pair_check) l_pair_check c_pair_check k_pair_check
  have F_clauses_in_order := fun_mk (st := s_clauses_in_order) l_clauses_in_order c_clauses_in_order k_clauses_in_order
  have F_rows_in_order := fun_mk (st := s_rows_in_order) l_rows_in_order c_rows_in_order k_rows_in_order
  have F_find_clauses := fun_mk (st := s_find_clauses) l_find_clauses c_find_clauses k_find_clauses
  have F_Eased___init__ := fun_mk (st := s_Eased___init__) l_Eased___init__ c_Eased___init__ k_Eased___init__
  have F_facts_in := fun_mk (st := s_facts_in) l_facts_in c_facts_in k_facts_in
  have F_row_worth := fun_mk (st := s_row_worth) l_row_worth c_row_worth k_row_worth
  have F_fact_worth := fun_mk (st := s_fact_worth) l_fact_worth c_fact_worth k_fact_worth
  have F_fact_worths := fun_mk (st := s_fact_worths) l_fact_worths c_fact_worths k_fact_worths
  have F_Cut___init__ := fun_mk (st := s_Cut___init__) l_Cut___init__ c_Cut___init__ k_Cut___init__
  have F_dear_fact := fun_mk (st := s_dear_fact) l_dear_fact c_dear_fact k_dear_fact
  have F_zone_of := fun_mk (st := s_zone_of) l_zone_of c_zone_of k_zone_of
  have F_is_among := fun_mk (st := s_is_among) l_is_among c_is_among k_is_among
  have F_before_zone := fun_mk (st := s_before_zone) l_before_zone c_before_zone k_before_zone
  have F_next_cut := fun_mk (st := s_next_cut) l_next_cut c_next_cut k_next_cut
  have F_find_cuts := fun_mk (st := s_find_cuts) l_find_cuts c_find_cuts k_find_cuts
  have F_cost_through := fun_mk (st := s_cost_through) l_cost_through c_cost_through k_cost_through
  have F_cost_from := fun_mk (st := s_cost_from) l_cost_from c_cost_from k_cost_from
  have F_cheapest_costs := fun_mk (st := s_cheapest_costs) l_cheapest_costs c_cheapest_costs k_cheapest_costs
  have F_first_step := fun_mk (st := s_first_step) l_first_step c_first_step k_first_step
  have F_first_cheapest_plan := fun_mk (st := s_first_cheapest_plan) l_first_cheapest_plan c_first_cheapest_plan k_first_cheapest_plan
  have F_states_behind := fun_mk (st := s_states_behind) l_states_behind c_states_behind k_states_behind
  have F_states_come_to := fun_mk (st := s_states_come_to) l_states_come_to c_states_come_to k_states_come_to
  have F_is_kind := fun_mk (st := s_is_kind) l_is_kind c_is_kind k_is_kind
  have F_own_plan := fun_mk (st := s_own_plan) l_own_plan c_own_plan k_own_plan
  have F_own_table := fun_mk (st := s_own_table) l_own_table c_own_table k_own_table
  have F_own_cuts := fun_mk (st := s_own_cuts) l_own_cuts c_own_cuts k_own_cuts
  have F_own_states := fun_mk (st := s_own_states) l_own_states c_own_states k_own_states
  have F_own_clauses := fun_mk (st := s_own_clauses) l_own_clauses c_own_clauses k_own_clauses
  have F_own_proof := fun_mk (st := s_own_proof) l_own_proof c_own_proof k_own_proof
  have F_Call___init__ := fun_mk (st := s_Call___init__) l_Call___init__ c_Call___init__ k_Call___init__
  have F_counted := fun_mk (st := s_counted) l_counted c_counted k_counted
  have F_read_calls := fun_mk (st := s_read_calls) l_read_calls c_read_calls k_read_calls
  have F_is_act_row := fun_mk (st := s_is_act_row) l_is_act_row c_is_act_row k_is_act_row
  have F_are_below := fun_mk (st := s_are_below) l_are_below c_are_below k_are_below
  have F_is_cut := fun_mk (st := s_is_cut) l_is_cut c_is_cut k_is_cut
  have F_House___init__ := fun_mk (st := s_House___init__) l_House___init__ c_House___init__ k_House___init__
  have F_House_begins := fun_mk (st := s_House_begins) l_House_begins c_House_begins k_House_begins
  have F_House_act := fun_mk (st := s_House_act) l_House_act c_House_act k_House_act
  have F_House_from_state := fun_mk (st := s_House_from_state) l_House_from_state c_House_from_state k_House_from_state
  have F_House_own := fun_mk (st := s_House_own) l_House_own c_House_own k_House_own
  have F_House_plan := fun_mk (st := s_House_plan) l_House_plan c_House_plan k_House_plan
  have F_House_table := fun_mk (st := s_House_table) l_House_table c_House_table k_House_table
  have F_House_cuts := fun_mk (st := s_House_cuts) l_House_cuts c_House_cuts k_House_cuts
  have F_House_state_set := fun_mk (st := s_House_state_set) l_House_state_set c_House_state_set k_House_state_set
  have F_House_clauses := fun_mk (st := s_House_clauses) l_House_clauses c_House_clauses k_House_clauses
  have F_House_pair := fun_mk (st := s_House_pair) l_House_pair c_House_pair k_House_pair
  have F_answer := fun_mk (st := s_answer) l_answer c_answer k_answer
  have F_answers := fun_mk (st := s_answers) l_answers c_answers k_answers
  refine ⟨PySem.W.fnOf "answers" "answers" (defArgs s_answers) (defBody s_answers) (defScope s_answers) .none kV_answers doc_answers pm_answers an_answers cdv_answers ct_answers, fun s us hu => match us, hu with | [_], _ => .of_eq rfl, fun base _ _ => ?_⟩
  have D_Call___init__ := d_Call___init__ (P := P) (w := w) (base := base) (A := ⟨C_Act, C_Task, C_Eased, C_Cut, C_Call, C_House⟩) T F_Call___init__ (PySem.W.mg_of X G g_Call) ⟨mk_Call, a_Call___init__, i_Call___init__, kc_Call⟩ 
  have D_counted := d_counted (P := P) (w := w) (base := base) (A := ⟨C_Act, C_Task, C_Eased, C_Cut, C_Call, C_House⟩) T F_counted (PySem.W.mg_of X G a_counted) 
  have D_read_calls := d_read_calls (P := P) (w := w) (base := base) (A := ⟨C_Act, C_Task, C_Eased, C_Cut, C_Call, C_House⟩) T F_read_calls (PySem.W.mg_of X G a_read_calls) D_Call___init__ D_counted
  have D_behind := d_behind (P := P) (w := w) (base := base) (A := ⟨C_Act, C_Task, C_Eased, C_Cut, C_Call, C_House⟩) T F_behind (PySem.W.mg_of X G a_behind) 
  have D_may_be_done := d_may_be_done (P := P) (w := w) (base := base) (A := ⟨C_Act, C_Task, C_Eased, C_Cut, C_Call, C_House⟩) T F_may_be_done (PySem.W.mg_of X G a_may_be_done) 
  have D_falls_too_fast := d_falls_too_fast (P := P) (w := w) (base := base) (A := ⟨C_Act, C_Task, C_Eased, C_Cut, C_Call, C_House⟩) T F_falls_too_fast (PySem.W.mg_of X G a_falls_too_fast) D_behind D_may_be_done
  have D_as_wanted := d_as_wanted (P := P) (w := w) (base := base) (A := ⟨C_Act, C_Task, C_Eased, C_Cut, C_Call, C_House⟩) T F_as_wanted (PySem.W.mg_of X G a_as_wanted) 
  have D_states_of := d_states_of (P := P) (w := w) (base := base) (A := ⟨C_Act, C_Task, C_Eased, C_Cut, C_Call, C_House⟩) T F_states_of (PySem.W.mg_of X G a_states_of) 
  have D_table_check := d_table_check (P := P) (w := w) (base := base) (A := ⟨C_Act, C_Task, C_Eased, C_Cut, C_Call, C_House⟩) T F_table_check (PySem.W.mg_of X G a_table_check) D_falls_too_fast D_as_wanted D_states_of
  have D_plan_check := d_plan_check (P := P) (w := w) (base := base) (A := ⟨C_Act, C_Task, C_Eased, C_Cut, C_Call, C_House⟩) T F_plan_check (PySem.W.mg_of X G a_plan_check) D_as_wanted D_behind D_may_be_done
  have D_pair_check := d_pair_check (P := P) (w := w) (base := base) (A := ⟨C_Act, C_Task, C_Eased, C_Cut, C_Call, C_House⟩) T F_pair_check (PySem.W.mg_of X G a_pair_check) D_table_check D_plan_check
  have D_House_pair := d_House_pair (P := P) (w := w) (base := base) (A := ⟨C_Act, C_Task, C_Eased, C_Cut, C_Call, C_House⟩) T F_House_pair ⟨a_House_pair, i_House_pair, k_House_pair⟩ D_pair_check
  have D_is_true := d_is_true (P := P) (w := w) (base := base) (A := ⟨C_Act, C_Task, C_Eased, C_Cut, C_Call, C_House⟩) T F_is_true (PySem.W.mg_of X G a_is_true) 
  have D_holds := d_holds (P := P) (w := w) (base := base) (A := ⟨C_Act, C_Task, C_Eased, C_Cut, C_Call, C_House⟩) T F_holds (PySem.W.mg_of X G a_holds) D_is_true
  have D_first_broken := d_first_broken (P := P) (w := w) (base := base) (A := ⟨C_Act, C_Task, C_Eased, C_Cut, C_Call, C_House⟩) T F_first_broken (PySem.W.mg_of X G a_first_broken) D_holds D_behind D_may_be_done
  have D_clauses_check := d_clauses_check (P := P) (w := w) (base := base) (A := ⟨C_Act, C_Task, C_Eased, C_Cut, C_Call, C_House⟩) T F_clauses_check (PySem.W.mg_of X G a_clauses_check) D_as_wanted D_first_broken D_states_of D_holds
  have D_are_below := d_are_below (P := P) (w := w) (base := base) (A := ⟨C_Act, C_Task, C_Eased, C_Cut, C_Call, C_House⟩) T F_are_below (PySem.W.mg_of X G a_are_below) 
  have D_House_clauses := d_House_clauses (P := P) (w := w) (base := base) (A := ⟨C_Act, C_Task, C_Eased, C_Cut, C_Call, C_House⟩) T F_House_clauses ⟨a_House_clauses, i_House_clauses, k_House_clauses⟩ D_clauses_check D_are_below
  have D_set_check := d_set_check (P := P) (w := w) (base := base) (A := ⟨C_Act, C_Task, C_Eased, C_Cut, C_Call, C_House⟩) T F_set_check (PySem.W.mg_of X G a_set_check) D_as_wanted D_behind D_may_be_done
  have D_are_there := d_are_there (P := P) (w := w) (base := base) (A := ⟨C_Act, C_Task, C_Eased, C_Cut, C_Call, C_House⟩) T F_are_there (PySem.W.mg_of X G a_are_there) 
  have D_House_state_set := d_House_state_set (P := P) (w := w) (base := base) (A := ⟨C_Act, C_Task, C_Eased, C_Cut, C_Call, C_House⟩) T F_House_state_set ⟨a_House_state_set, i_House_state_set, k_House_state_set⟩ D_set_check D_are_there
  have D_had_without := d_had_without (P := P) (w := w) (base := base) (A := ⟨C_Act, C_Task, C_Eased, C_Cut, C_Call, C_House⟩) T F_had_without (PySem.W.mg_of X G a_had_without) 
  have D_cuts_check := d_cuts_check (P := P) (w := w) (base := base) (A := ⟨C_Act, C_Task, C_Eased, C_Cut, C_Call, C_House⟩) T F_cuts_check (PySem.W.mg_of X G a_cuts_check) D_as_wanted D_had_without
  have D_is_cut := d_is_cut (P := P) (w := w) (base := base) (A := ⟨C_Act, C_Task, C_Eased, C_Cut, C_Call, C_House⟩) T F_is_cut (PySem.W.mg_of X G a_is_cut) D_are_below
  have D_House_cuts := d_House_cuts (P := P) (w := w) (base := base) (A := ⟨C_Act, C_Task, C_Eased, C_Cut, C_Call, C_House⟩) T F_House_cuts ⟨a_House_cuts, i_House_cuts, k_House_cuts⟩ D_cuts_check D_is_cut
  have D_House_table := d_House_table (P := P) (w := w) (base := base) (A := ⟨C_Act, C_Task, C_Eased, C_Cut, C_Call, C_House⟩) T F_House_table ⟨a_House_table, i_House_table, k_House_table⟩ D_table_check
  have D_House_plan := d_House_plan (P := P) (w := w) (base := base) (A := ⟨C_Act, C_Task, C_Eased, C_Cut, C_Call, C_House⟩) T F_House_plan ⟨a_House_plan, i_House_plan, k_House_plan⟩ D_plan_check
  have D_clauses_in_order := d_clauses_in_order (P := P) (w := w) (base := base) (A := ⟨C_Act, C_Task, C_Eased, C_Cut, C_Call, C_House⟩) T F_clauses_in_order (PySem.W.mg_of X G a_clauses_in_order) 
  have D_rows_in_order := d_rows_in_order (P := P) (w := w) (base := base) (A := ⟨C_Act, C_Task, C_Eased, C_Cut, C_Call, C_House⟩) T F_rows_in_order (PySem.W.mg_of X G a_rows_in_order) D_clauses_in_order
  have D_find_clauses := d_find_clauses (P := P) (w := w) (base := base) (A := ⟨C_Act, C_Task, C_Eased, C_Cut, C_Call, C_House⟩) T F_find_clauses (PySem.W.mg_of X G a_find_clauses) D_rows_in_order D_clauses_check
  have D_own_clauses := d_own_clauses (P := P) (w := w) (base := base) (A := ⟨C_Act, C_Task, C_Eased, C_Cut, C_Call, C_House⟩) T F_own_clauses (PySem.W.mg_of X G a_own_clauses) D_find_clauses
  have D_states_behind := d_states_behind (P := P) (w := w) (base := base) (A := ⟨C_Act, C_Task, C_Eased, C_Cut, C_Call, C_House⟩) T F_states_behind (PySem.W.mg_of X G a_states_behind) D_may_be_done D_behind
  have D_states_come_to := d_states_come_to (P := P) (w := w) (base := base) (A := ⟨C_Act, C_Task, C_Eased, C_Cut, C_Call, C_House⟩) T F_states_come_to (PySem.W.mg_of X G a_states_come_to) D_states_behind
  have D_cost_through := d_cost_through (P := P) (w := w) (base := base) (A := ⟨C_Act, C_Task, C_Eased, C_Cut, C_Call, C_House⟩) T F_cost_through (PySem.W.mg_of X G a_cost_through) D_behind D_may_be_done
  have D_cost_from := d_cost_from (P := P) (w := w) (base := base) (A := ⟨C_Act, C_Task, C_Eased, C_Cut, C_Call, C_House⟩) T F_cost_from (PySem.W.mg_of X G a_cost_from) D_cost_through D_as_wanted
  have D_cheapest_costs := d_cheapest_costs (P := P) (w := w) (base := base) (A := ⟨C_Act, C_Task, C_Eased, C_Cut, C_Call, C_House⟩) T F_cheapest_costs (PySem.W.mg_of X G a_cheapest_costs) D_states_of D_cost_from
  have D_own_states := d_own_states (P := P) (w := w) (base := base) (A := ⟨C_Act, C_Task, C_Eased, C_Cut, C_Call, C_House⟩) T F_own_states (PySem.W.mg_of X G a_own_states) D_states_come_to D_cheapest_costs
  have D_facts_in := d_facts_in (P := P) (w := w) (base := base) (A := ⟨C_Act, C_Task, C_Eased, C_Cut, C_Call, C_House⟩) T F_facts_in (PySem.W.mg_of X G a_facts_in) 
  have D_row_worth := d_row_worth (P := P) (w := w) (base := base) (A := ⟨C_Act, C_Task, C_Eased, C_Cut, C_Call, C_House⟩) T F_row_worth (PySem.W.mg_of X G a_row_worth) D_facts_in
  have D_fact_worth := d_fact_worth (P := P) (w := w) (base := base) (A := ⟨C_Act, C_Task, C_Eased, C_Cut, C_Call, C_House⟩) T F_fact_worth (PySem.W.mg_of X G a_fact_worth) D_row_worth
  have D_fact_worths := d_fact_worths (P := P) (w := w) (base := base) (A := ⟨C_Act, C_Task, C_Eased, C_Cut, C_Call, C_House⟩) T F_fact_worths (PySem.W.mg_of X G a_fact_worths) D_fact_worth
  have D_Cut___init__ := d_Cut___init__ (P := P) (w := w) (base := base) (A := ⟨C_Act, C_Task, C_Eased, C_Cut, C_Call, C_House⟩) T F_Cut___init__ (PySem.W.mg_of X G g_Cut) ⟨mk_Cut, a_Cut___init__, i_Cut___init__, kc_Cut⟩ 
  have D_is_among := d_is_among (P := P) (w := w) (base := base) (A := ⟨C_Act, C_Task, C_Eased, C_Cut, C_Call, C_House⟩) T F_is_among (PySem.W.mg_of X G a_is_among) 
  have D_before_zone := d_before_zone (P := P) (w := w) (base := base) (A := ⟨C_Act, C_Task, C_Eased, C_Cut, C_Call, C_House⟩) T F_before_zone (PySem.W.mg_of X G a_before_zone) D_is_among
  have D_zone_of := d_zone_of (P := P) (w := w) (base := base) (A := ⟨C_Act, C_Task, C_Eased, C_Cut, C_Call, C_House⟩) T F_zone_of (PySem.W.mg_of X G a_zone_of) 
  have D_dear_fact := d_dear_fact (P := P) (w := w) (base := base) (A := ⟨C_Act, C_Task, C_Eased, C_Cut, C_Call, C_House⟩) T F_dear_fact (PySem.W.mg_of X G a_dear_fact) D_facts_in D_row_worth
  have D_next_cut := d_next_cut (P := P) (w := w) (base := base) (A := ⟨C_Act, C_Task, C_Eased, C_Cut, C_Call, C_House⟩) T F_next_cut (PySem.W.mg_of X G a_next_cut) D_Cut___init__ D_is_among D_before_zone D_zone_of D_dear_fact
  have D_Eased___init__ := d_Eased___init__ (P := P) (w := w) (base := base) (A := ⟨C_Act, C_Task, C_Eased, C_Cut, C_Call, C_House⟩) T F_Eased___init__ (PySem.W.mg_of X G g_Eased) ⟨mk_Eased, a_Eased___init__, i_Eased___init__, kc_Eased⟩ 
  have D_find_cuts := d_find_cuts (P := P) (w := w) (base := base) (A := ⟨C_Act, C_Task, C_Eased, C_Cut, C_Call, C_House⟩) T F_find_cuts (PySem.W.mg_of X G a_find_cuts) D_fact_worths D_next_cut D_Eased___init__
  have D_own_cuts := d_own_cuts (P := P) (w := w) (base := base) (A := ⟨C_Act, C_Task, C_Eased, C_Cut, C_Call, C_House⟩) T F_own_cuts (PySem.W.mg_of X G a_own_cuts) D_find_cuts
  have D_own_table := d_own_table (P := P) (w := w) (base := base) (A := ⟨C_Act, C_Task, C_Eased, C_Cut, C_Call, C_House⟩) T F_own_table (PySem.W.mg_of X G a_own_table) D_cheapest_costs
  have D_first_step := d_first_step (P := P) (w := w) (base := base) (A := ⟨C_Act, C_Task, C_Eased, C_Cut, C_Call, C_House⟩) T F_first_step (PySem.W.mg_of X G a_first_step) D_cost_through
  have D_first_cheapest_plan := d_first_cheapest_plan (P := P) (w := w) (base := base) (A := ⟨C_Act, C_Task, C_Eased, C_Cut, C_Call, C_House⟩) T F_first_cheapest_plan (PySem.W.mg_of X G a_first_cheapest_plan) D_as_wanted D_behind D_first_step
  have D_own_plan := d_own_plan (P := P) (w := w) (base := base) (A := ⟨C_Act, C_Task, C_Eased, C_Cut, C_Call, C_House⟩) T F_own_plan (PySem.W.mg_of X G a_own_plan) D_first_cheapest_plan D_cheapest_costs
  have D_own_proof := d_own_proof (P := P) (w := w) (base := base) (A := ⟨C_Act, C_Task, C_Eased, C_Cut, C_Call, C_House⟩) T F_own_proof (PySem.W.mg_of X G a_own_proof) D_own_clauses D_own_states D_own_cuts D_own_table D_own_plan
  have D_is_kind := d_is_kind (P := P) (w := w) (base := base) (A := ⟨C_Act, C_Task, C_Eased, C_Cut, C_Call, C_House⟩) T F_is_kind (PySem.W.mg_of X G a_is_kind) 
  have D_House_own := d_House_own (P := P) (w := w) (base := base) (A := ⟨C_Act, C_Task, C_Eased, C_Cut, C_Call, C_House⟩) T F_House_own ⟨a_House_own, i_House_own, k_House_own⟩ D_own_proof D_is_kind
  have D_Task___init__ := d_Task___init__ (P := P) (w := w) (base := base) (A := ⟨C_Act, C_Task, C_Eased, C_Cut, C_Call, C_House⟩) T F_Task___init__ (PySem.W.mg_of X G g_Task) ⟨mk_Task, a_Task___init__, i_Task___init__, kc_Task⟩ 
  have D_House_from_state := d_House_from_state (P := P) (w := w) (base := base) (A := ⟨C_Act, C_Task, C_Eased, C_Cut, C_Call, C_House⟩) T F_House_from_state ⟨a_House_from_state, i_House_from_state, k_House_from_state⟩ D_Task___init__ D_are_there
  have D_Act___init__ := d_Act___init__ (P := P) (w := w) (base := base) (A := ⟨C_Act, C_Task, C_Eased, C_Cut, C_Call, C_House⟩) T F_Act___init__ (PySem.W.mg_of X G g_Act) ⟨mk_Act, a_Act___init__, i_Act___init__, kc_Act⟩ 
  have D_is_act_row := d_is_act_row (P := P) (w := w) (base := base) (A := ⟨C_Act, C_Task, C_Eased, C_Cut, C_Call, C_House⟩) T F_is_act_row (PySem.W.mg_of X G a_is_act_row) D_are_there
  have D_House_act := d_House_act (P := P) (w := w) (base := base) (A := ⟨C_Act, C_Task, C_Eased, C_Cut, C_Call, C_House⟩) T F_House_act ⟨a_House_act, i_House_act, k_House_act⟩ D_Task___init__ D_Act___init__ D_is_act_row
  have D_House_begins := d_House_begins (P := P) (w := w) (base := base) (A := ⟨C_Act, C_Task, C_Eased, C_Cut, C_Call, C_House⟩) T F_House_begins ⟨a_House_begins, i_House_begins, k_House_begins⟩ D_Task___init__ D_are_there
  have D_answer := d_answer (P := P) (w := w) (base := base) (A := ⟨C_Act, C_Task, C_Eased, C_Cut, C_Call, C_House⟩) T F_answer (PySem.W.mg_of X G a_answer) D_House_pair D_House_clauses D_House_state_set D_House_cuts D_House_table D_House_plan D_House_own D_House_from_state D_House_act D_House_begins
  have D_House___init__ := d_House___init__ (P := P) (w := w) (base := base) (A := ⟨C_Act, C_Task, C_Eased, C_Cut, C_Call, C_House⟩) T F_House___init__ (PySem.W.mg_of X G g_House) ⟨mk_House, a_House___init__, i_House___init__, kc_House⟩ D_Task___init__
  exact d_answers (A := ⟨C_Act, C_Task, C_Eased, C_Cut, C_Call, C_House⟩) T F_answers D_read_calls D_answer D_House___init__
end PC

set_option Elab.async false
set_option linter.all false
set_option maxRecDepth 100000
set_option maxHeartbeats 2000000
namespace PC
open PySem PySem.W PyProof.Rows L2
theorem spec_S (K : PySem.W.Frag) (H : Hp) (xs : List V) (a : Codec.denoteAll PySem.Challenge.rw_proofcheck_s01_answers.args) (hO : OnlyF H) (hwi : Codec.withinAll PySem.Challenge.rw_proofcheck_s01_answers.args a = true) (hask : Codec.app PySem.Challenge.rw_proofcheck_s01_answers.args PySem.Challenge.rw_proofcheck_s01_answers.asked a = true)
    (hx : DwAll K H xs (Codec.encAll PySem.Challenge.rw_proofcheck_s01_answers.args a)) : spAns0 K xs H (fun v H' => Dw K H' v (PySem.Challenge.rw_proofcheck_s01_answers.ret.enc (Codec.app PySem.Challenge.rw_proofcheck_s01_answers.args PySem.Challenge.rw_proofcheck_s01_answers.f a))) fun _ _ _ => False := by
  cases hx with
  | cons h1 h2 =>
    cases h2
    cases h1 with
    | lst hs ha =>
      have e := L2.ints_dw a.1 _ ha
      subst e
      have hw : (Codec.within (.list 0 13000 (.int 0 4294967295)) a.1 && true) = true := hwi
      have hw : ((decide (0 ≤ a.1.length) && decide (a.1.length ≤ 13000) && a.1.all (fun x => decide ((0 : Int) ≤ x) && decide (x ≤ 4294967295))) && true) = true := hw
      simp only [Bool.and_eq_true, decide_eq_true_eq, List.all_eq_true] at hw
      refine ⟨_, a.1, rfl, hs, hask, ?_, ?_, fun H' p hp => .lst (L2.SqL.of hp) (L2.dw_ints _)⟩
      · exact hw.1.2
      · exact hw.1.1.2
end PC

set_option Elab.async false

open PySem PySem.W PyProof.Rows
set_option maxRecDepth 100000 in
set_option maxHeartbeats 0 in
theorem PySem.Challenge.cw_proofcheck_s01_answers_holds : PySem.Challenge.rw_proofcheck_s01_answers.Holds := by
  w_on; k_headS; (case hw => exact ⟨[.list [.int 0, .int 3, .int 1, .int 0, .int 0, .int 0]], by decide +kernel, by decide +kernel⟩)
  k_fillS
  refine L2.walk_specK (r := PySem.Challenge.rw_proofcheck_s01_answers) (k := 10) (CX := L2.CX0) (ps := ["calls"]) (sp := PC.spAns0) (by decide +kernel) rfl rfl ⟨rfl, by decide, by decide⟩ (fun w h Y => PySem.W.kIn_of Y) ?F ?S (fun _ _ _ _ z => z)
  case F =>
    intro w mg fa h Y KX G hmg
    refine' PC.all_mk KX G hmg ?g_Act ?pg_Act ?hd_Act ?po_Act ?sa_Act ?mk_Act ?kc_Act ?nNeeds_Act ?nBars_Act ?nBrings_Act ?nTakes_Act ?nCost_Act ?g_Task ?pg_Task ?hd_Task ?po_Task ?sa_Task ?mk_Task ?kc_Task ?nFacts_Task ?nSo_Task ?nWanted_Task ?nActs_Task ?g_Eased ?pg_Eased ?hd_Eased ?po_Eased ?sa_Eased ?mk_Eased ?kc_Eased ?nEnd_Eased ?nESo_Eased ?nENeeds_Eased ?nEBrings_Eased ?g_Cut ?pg_Cut ?hd_Cut ?po_Cut ?sa_Cut ?mk_Cut ?kc_Cut ?nWorth_Cut ?nCActs_Cut ?g_Call ?pg_Call ?hd_Call ?po_Call ?sa_Call ?mk_Call ?kc_Call ?nNumber_Call ?nNumbers_Call ?nLists_Call ?g_House ?pg_House ?hd_House ?po_House ?sa_House ?mk_House ?kc_House ?nTask_House ?a_Act___init__ ?i_Act___init__ ?l_Act___init__ ?c_Act___init__ ?k_Act___init__ ?a_Task___init__ ?i_Task___init__ ?l_Task___init__ ?c_Task___init__ ?k_Task___init__ ?a_are_there ?l_are_there ?c_are_there ?k_are_there ?a_states_of ?l_states_of ?c_states_of ?k_states_of ?a_as_wanted ?l_as_wanted ?c_as_wanted ?k_as_wanted ?a_may_be_done ?l_may_be_done ?c_may_be_done ?k_may_be_done ?a_behind ?l_behind ?c_behind ?k_behind ?a_plan_check ?l_plan_check ?c_plan_check ?k_plan_check ?a_falls_too_fast ?l_falls_too_fast ?c_falls_too_fast ?k_falls_too_fast ?a_table_check ?l_table_check ?c_table_check ?k_table_check ?a_had_without ?l_had_without ?c_had_without ?k_had_without ?a_cuts_check ?l_cuts_check ?c_cuts_check ?k_cuts_check ?a_set_check ?l_set_check ?c_set_check ?k_set_check ?a_is_true ?l_is_true ?c_is_true ?k_is_true ?a_holds ?l_holds ?c_holds ?k_holds ?a_first_broken ?l_first_broken ?c_first_broken ?k_first_broken ?a_clauses_check ?l_clauses_check ?c_clauses_check ?k_clauses_check ?a_pair_check ?l_pair_check ?c_pair_check ?k_pair_check ?a_clauses_in_order ?l_clauses_in_order ?c_clauses_in_order ?k_clauses_in_order ?a_rows_in_order ?l_rows_in_order ?c_rows_in_order ?k_rows_in_order ?a_find_clauses ?l_find_clauses ?c_find_clauses ?k_find_clauses ?a_Eased___init__ ?i_Eased___init__ ?l_Eased___init__ ?c_Eased___init__ ?k_Eased___init__ ?a_facts_in ?l_facts_in ?c_facts_in ?k_facts_in ?a_row_worth ?l_row_worth ?c_row_worth ?k_row_worth ?a_fact_worth ?l_fact_worth ?c_fact_worth ?k_fact_worth ?a_fact_worths ?l_fact_worths ?c_fact_worths ?k_fact_worths ?a_Cut___init__ ?i_Cut___init__ ?l_Cut___init__ ?c_Cut___init__ ?k_Cut___init__ ?a_dear_fact ?l_dear_fact ?c_dear_fact ?k_dear_fact ?a_zone_of ?l_zone_of ?c_zone_of ?k_zone_of ?a_is_among ?l_is_among ?c_is_among ?k_is_among ?a_before_zone ?l_before_zone ?c_before_zone ?k_before_zone ?a_next_cut ?l_next_cut ?c_next_cut ?k_next_cut ?a_find_cuts ?l_find_cuts ?c_find_cuts ?k_find_cuts ?a_cost_through ?l_cost_through ?c_cost_through ?k_cost_through ?a_cost_from ?l_cost_from ?c_cost_from ?k_cost_from ?a_cheapest_costs ?l_cheapest_costs ?c_cheapest_costs ?k_cheapest_costs ?a_first_step ?l_first_step ?c_first_step ?k_first_step ?a_first_cheapest_plan ?l_first_cheapest_plan ?c_first_cheapest_plan ?k_first_cheapest_plan ?a_states_behind ?l_states_behind ?c_states_behind ?k_states_behind ?a_states_come_to ?l_states_come_to ?c_states_come_to ?k_states_come_to ?a_is_kind ?l_is_kind ?c_is_kind ?k_is_kind ?a_own_plan ?l_own_plan ?c_own_plan ?k_own_plan ?a_own_table ?l_own_table ?c_own_table ?k_own_table ?a_own_cuts ?l_own_cuts ?c_own_cuts ?k_own_cuts ?a_own_states ?l_own_states ?c_own_states ?k_own_states ?a_own_clauses ?l_own_clauses ?c_own_clauses ?k_own_clauses ?a_own_proof ?l_own_proof ?c_own_proof ?k_own_proof ?a_Call___init__ ?i_Call___init__ ?l_Call___init__ ?c_Call___init__ ?k_Call___init__ ?a_counted ?l_counted ?c_counted ?k_counted ?a_read_calls ?l_read_calls ?c_read_calls ?k_read_calls ?a_is_act_row ?l_is_act_row ?c_is_act_row ?k_is_act_row ?a_are_below ?l_are_below ?c_are_below ?k_are_below ?a_is_cut ?l_is_cut ?c_is_cut ?k_is_cut ?a_House___init__ ?i_House___init__ ?l_House___init__ ?c_House___init__ ?k_House___init__ ?a_House_begins ?i_House_begins ?l_House_begins ?c_House_begins ?k_House_begins ?a_House_act ?i_House_act ?l_House_act ?c_House_act ?k_House_act ?a_House_from_state ?i_House_from_state ?l_House_from_state ?c_House_from_state ?k_House_from_state ?a_House_own ?i_House_own ?l_House_own ?c_House_own ?k_House_own ?a_House_plan ?i_House_plan ?l_House_plan ?c_House_plan ?k_House_plan ?a_House_table ?i_House_table ?l_House_table ?c_House_table ?k_House_table ?a_House_cuts ?i_House_cuts ?l_House_cuts ?c_House_cuts ?k_House_cuts ?a_House_state_set ?i_House_state_set ?l_House_state_set ?c_House_state_set ?k_House_state_set ?a_House_clauses ?i_House_clauses ?l_House_clauses ?c_House_clauses ?k_House_clauses ?a_House_pair ?i_House_pair ?l_House_pair ?c_House_pair ?k_House_pair ?a_answer ?l_answer ?c_answer ?k_answer ?a_answers ?l_answers ?c_answers ?k_answers ?z_len ?z_range ?z_list ?z_enumerate ?z_min ?z_max ?z_sum ?z_any ?z_all ?z_sorted ?v_PLAN_own ?v_TABLE_own ?v_CUTS_own ?v_STATES ?v_CLAUSES_own ?v_MOST_FACTS ?v_MOST_ACTS ?v_MOST_COST ?v_BEGINS ?v_ACT ?v_FROM_STATE ?v_OWN ?v_PLAN_house ?v_TABLE_house ?v_CUTS_house ?v_SET ?v_CLAUSES_house
    (case g_Act => k_is)
    (case pg_Act => k_is)
    (case hd_Act => k_is)
    (case po_Act => k_is)
    (case sa_Act => k_is)
    (case mk_Act => k_is)
    (case kc_Act => k_is)
    (case nNeeds_Act => k_is)
    (case nBars_Act => k_is)
    (case nBrings_Act => k_is)
    (case nTakes_Act => k_is)
    (case nCost_Act => k_is)
    (case g_Task => k_is)
    (case pg_Task => k_is)
    (case hd_Task => k_is)
    (case po_Task => k_is)
    (case sa_Task => k_is)
    (case mk_Task => k_is)
    (case kc_Task => k_is)
    (case nFacts_Task => k_is)
    (case nSo_Task => k_is)
    (case nWanted_Task => k_is)
    (case nActs_Task => k_is)
    (case g_Eased => k_is)
    (case pg_Eased => k_is)
    (case hd_Eased => k_is)
    (case po_Eased => k_is)
    (case sa_Eased => k_is)
    (case mk_Eased => k_is)
    (case kc_Eased => k_is)
    (case nEnd_Eased => k_is)
    (case nESo_Eased => k_is)
    (case nENeeds_Eased => k_is)
    (case nEBrings_Eased => k_is)
    (case g_Cut => k_is)
    (case pg_Cut => k_is)
    (case hd_Cut => k_is)
    (case po_Cut => k_is)
    (case sa_Cut => k_is)
    (case mk_Cut => k_is)
    (case kc_Cut => k_is)
    (case nWorth_Cut => k_is)
    (case nCActs_Cut => k_is)
    (case g_Call => k_is)
    (case pg_Call => k_is)
    (case hd_Call => k_is)
    (case po_Call => k_is)
    (case sa_Call => k_is)
    (case mk_Call => k_is)
    (case kc_Call => k_is)
    (case nNumber_Call => k_is)
    (case nNumbers_Call => k_is)
    (case nLists_Call => k_is)
    (case g_House => k_is)
    (case pg_House => k_is)
    (case hd_House => k_is)
    (case po_House => k_is)
    (case sa_House => k_is)
    (case mk_House => k_is)
    (case kc_House => k_is)
    (case nTask_House => k_is)
    (case a_Act___init__ => k_is)
    (case i_Act___init__ => k_is)
    (case l_Act___init__ => k_is)
    (case c_Act___init__ => k_is)
    (case k_Act___init__ => k_is)
    (case a_Task___init__ => k_is)
    (case i_Task___init__ => k_is)
    (case l_Task___init__ => k_is)
    (case c_Task___init__ => k_is)
    (case k_Task___init__ => k_is)
    (case a_are_there => k_is)
    (case l_are_there => k_is)
    (case c_are_there => k_is)
    (case k_are_there => k_is)
    (case a_states_of => k_is)
    (case l_states_of => k_is)
    (case c_states_of => k_is)
    (case k_states_of => k_is)
    (case a_as_wanted => k_is)
    (case l_as_wanted => k_is)
    (case c_as_wanted => k_is)
    (case k_as_wanted => k_is)
    (case a_may_be_done => k_is)
    (case l_may_be_done => k_is)
    (case c_may_be_done => k_is)
    (case k_may_be_done => k_is)
    (case a_behind => k_is)
    (case l_behind => k_is)
    (case c_behind => k_is)
    (case k_behind => k_is)
    (case a_plan_check => k_is)
    (case l_plan_check => k_is)
    (case c_plan_check => k_is)
    (case k_plan_check => k_is)
    (case a_falls_too_fast => k_is)
    (case l_falls_too_fast => k_is)
    (case c_falls_too_fast => k_is)
    (case k_falls_too_fast => k_is)
    (case a_table_check => k_is)
    (case l_table_check => k_is)
    (case c_table_check => k_is)
    (case k_table_check => k_is)
    (case a_had_without => k_is)
    (case l_had_without => k_is)
    (case c_had_without => k_is)
    (case k_had_without => k_is)
    (case a_cuts_check => k_is)
    (case l_cuts_check => k_is)
    (case c_cuts_check => k_is)
    (case k_cuts_check => k_is)
    (case a_set_check => k_is)
    (case l_set_check => k_is)
    (case c_set_check => k_is)
    (case k_set_check => k_is)
    (case a_is_true => k_is)
    (case l_is_true => k_is)
    (case c_is_true => k_is)
    (case k_is_true => k_is)
    (case a_holds => k_is)
    (case l_holds => k_is)
    (case c_holds => k_is)
    (case k_holds => k_is)
    (case a_first_broken => k_is)
    (case l_first_broken => k_is)
    (case c_first_broken => k_is)
    (case k_first_broken => k_is)
    (case a_clauses_check => k_is)
    (case l_clauses_check => k_is)
    (case c_clauses_check => k_is)
    (case k_clauses_check => k_is)
    (case a_pair_check => k_is)
    (case l_pair_check => k_is)
    (case c_pair_check => k_is)
    (case k_pair_check => k_is)
    (case a_clauses_in_order => k_is)
    (case l_clauses_in_order => k_is)
    (case c_clauses_in_order => k_is)
    (case k_clauses_in_order => k_is)
    (case a_rows_in_order => k_is)
    (case l_rows_in_order => k_is)
    (case c_rows_in_order => k_is)
    (case k_rows_in_order => k_is)
    (case a_find_clauses => k_is)
    (case l_find_clauses => k_is)
    (case c_find_clauses => k_is)
    (case k_find_clauses => k_is)
    (case a_Eased___init__ => k_is)
    (case i_Eased___init__ => k_is)
    (case l_Eased___init__ => k_is)
    (case c_Eased___init__ => k_is)
    (case k_Eased___init__ => k_is)
    (case a_facts_in => k_is)
    (case l_facts_in => k_is)
    (case c_facts_in => k_is)
    (case k_facts_in => k_is)
    (case a_row_worth => k_is)
    (case l_row_worth => k_is)
    (case c_row_worth => k_is)
    (case k_row_worth => k_is)
    (case a_fact_worth => k_is)
    (case l_fact_worth => k_is)
    (case c_fact_worth => k_is)
    (case k_fact_worth => k_is)
    (case a_fact_worths => k_is)
    (case l_fact_worths => k_is)
    (case c_fact_worths => k_is)
    (case k_fact_worths => k_is)
    (case a_Cut___init__ => k_is)
    (case i_Cut___init__ => k_is)
    (case l_Cut___init__ => k_is)
    (case c_Cut___init__ => k_is)
    (case k_Cut___init__ => k_is)
    (case a_dear_fact => k_is)
    (case l_dear_fact => k_is)
    (case c_dear_fact => k_is)
    (case k_dear_fact => k_is)
    (case a_zone_of => k_is)
    (case l_zone_of => k_is)
    (case c_zone_of => k_is)
    (case k_zone_of => k_is)
    (case a_is_among => k_is)
    (case l_is_among => k_is)
    (case c_is_among => k_is)
    (case k_is_among => k_is)
    (case a_before_zone => k_is)
    (case l_before_zone => k_is)
    (case c_before_zone => k_is)
    (case k_before_zone => k_is)
    (case a_next_cut => k_is)
    (case l_next_cut => k_is)
    (case c_next_cut => k_is)
    (case k_next_cut => k_is)
    (case a_find_cuts => k_is)
    (case l_find_cuts => k_is)
    (case c_find_cuts => k_is)
    (case k_find_cuts => k_is)
    (case a_cost_through => k_is)
    (case l_cost_through => k_is)
    (case c_cost_through => k_is)
    (case k_cost_through => k_is)
    (case a_cost_from => k_is)
    (case l_cost_from => k_is)
    (case c_cost_from => k_is)
    (case k_cost_from => k_is)
    (case a_cheapest_costs => k_is)
    (case l_cheapest_costs => k_is)
    (case c_cheapest_costs => k_is)
    (case k_cheapest_costs => k_is)
    (case a_first_step => k_is)
    (case l_first_step => k_is)
    (case c_first_step => k_is)
    (case k_first_step => k_is)
    (case a_first_cheapest_plan => k_is)
    (case l_first_cheapest_plan => k_is)
    (case c_first_cheapest_plan => k_is)
    (case k_first_cheapest_plan => k_is)
    (case a_states_behind => k_is)
    (case l_states_behind => k_is)
    (case c_states_behind => k_is)
    (case k_states_behind => k_is)
    (case a_states_come_to => k_is)
    (case l_states_come_to => k_is)
    (case c_states_come_to => k_is)
    (case k_states_come_to => k_is)
    (case a_is_kind => k_is)
    (case l_is_kind => k_is)
    (case c_is_kind => k_is)
    (case k_is_kind => k_is)
    (case a_own_plan => k_is)
    (case l_own_plan => k_is)
    (case c_own_plan => k_is)
    (case k_own_plan => k_is)
    (case a_own_table => k_is)
    (case l_own_table => k_is)
    (case c_own_table => k_is)
    (case k_own_table => k_is)
    (case a_own_cuts => k_is)
    (case l_own_cuts => k_is)
    (case c_own_cuts => k_is)
    (case k_own_cuts => k_is)
    (case a_own_states => k_is)
    (case l_own_states => k_is)
    (case c_own_states => k_is)
    (case k_own_states => k_is)
    (case a_own_clauses => k_is)
    (case l_own_clauses => k_is)
    (case c_own_clauses => k_is)
    (case k_own_clauses => k_is)
    (case a_own_proof => k_is)
    (case l_own_proof => k_is)
    (case c_own_proof => k_is)
    (case k_own_proof => k_is)
    (case a_Call___init__ => k_is)
    (case i_Call___init__ => k_is)
    (case l_Call___init__ => k_is)
    (case c_Call___init__ => k_is)
    (case k_Call___init__ => k_is)
    (case a_counted => k_is)
    (case l_counted => k_is)
    (case c_counted => k_is)
    (case k_counted => k_is)
    (case a_read_calls => k_is)
    (case l_read_calls => k_is)
    (case c_read_calls => k_is)
    (case k_read_calls => k_is)
    (case a_is_act_row => k_is)
    (case l_is_act_row => k_is)
    (case c_is_act_row => k_is)
    (case k_is_act_row => k_is)
    (case a_are_below => k_is)
    (case l_are_below => k_is)
    (case c_are_below => k_is)
    (case k_are_below => k_is)
    (case a_is_cut => k_is)
    (case l_is_cut => k_is)
    (case c_is_cut => k_is)
    (case k_is_cut => k_is)
    (case a_House___init__ => k_is)
    (case i_House___init__ => k_is)
    (case l_House___init__ => k_is)
    (case c_House___init__ => k_is)
    (case k_House___init__ => k_is)
    (case a_House_begins => k_is)
    (case i_House_begins => k_is)
    (case l_House_begins => k_is)
    (case c_House_begins => k_is)
    (case k_House_begins => k_is)
    (case a_House_act => k_is)
    (case i_House_act => k_is)
    (case l_House_act => k_is)
    (case c_House_act => k_is)
    (case k_House_act => k_is)
    (case a_House_from_state => k_is)
    (case i_House_from_state => k_is)
    (case l_House_from_state => k_is)
    (case c_House_from_state => k_is)
    (case k_House_from_state => k_is)
    (case a_House_own => k_is)
    (case i_House_own => k_is)
    (case l_House_own => k_is)
    (case c_House_own => k_is)
    (case k_House_own => k_is)
    (case a_House_plan => k_is)
    (case i_House_plan => k_is)
    (case l_House_plan => k_is)
    (case c_House_plan => k_is)
    (case k_House_plan => k_is)
    (case a_House_table => k_is)
    (case i_House_table => k_is)
    (case l_House_table => k_is)
    (case c_House_table => k_is)
    (case k_House_table => k_is)
    (case a_House_cuts => k_is)
    (case i_House_cuts => k_is)
    (case l_House_cuts => k_is)
    (case c_House_cuts => k_is)
    (case k_House_cuts => k_is)
    (case a_House_state_set => k_is)
    (case i_House_state_set => k_is)
    (case l_House_state_set => k_is)
    (case c_House_state_set => k_is)
    (case k_House_state_set => k_is)
    (case a_House_clauses => k_is)
    (case i_House_clauses => k_is)
    (case l_House_clauses => k_is)
    (case c_House_clauses => k_is)
    (case k_House_clauses => k_is)
    (case a_House_pair => k_is)
    (case i_House_pair => k_is)
    (case l_House_pair => k_is)
    (case c_House_pair => k_is)
    (case k_House_pair => k_is)
    (case a_answer => k_is)
    (case l_answer => k_is)
    (case c_answer => k_is)
    (case k_answer => k_is)
    (case a_answers => k_is)
    (case l_answers => k_is)
    (case c_answers => k_is)
    (case k_answers => k_is)
    (case z_len => k_is)
    (case z_range => k_is)
    (case z_list => k_is)
    (case z_enumerate => k_is)
    (case z_min => k_is)
    (case z_max => k_is)
    (case z_sum => k_is)
    (case z_any => k_is)
    (case z_all => k_is)
    (case z_sorted => k_is)
    (case v_PLAN_own => k_is)
    (case v_TABLE_own => k_is)
    (case v_CUTS_own => k_is)
    (case v_STATES => k_is)
    (case v_CLAUSES_own => k_is)
    (case v_MOST_FACTS => k_is)
    (case v_MOST_ACTS => k_is)
    (case v_MOST_COST => k_is)
    (case v_BEGINS => k_is)
    (case v_ACT => k_is)
    (case v_FROM_STATE => k_is)
    (case v_OWN => k_is)
    (case v_PLAN_house => k_is)
    (case v_TABLE_house => k_is)
    (case v_CUTS_house => k_is)
    (case v_SET => k_is)
    (case v_CLAUSES_house => k_is)
  case S => exact PC.spec_S

