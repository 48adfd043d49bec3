import PyProof.Rows.All
import Wide.All
import OpenK.AllK
import Wide.FinOn
import Open.SpecLaws
import KE.OsGo
import HandS.ForSpec
import HandS.Comp
import HandS.Codes
import HandS.CallLocal
import HandS.Evl
import PySem.Challenge.RW_fathersets_s01_answers
set_option Elab.async false
set_option linter.all false
set_option maxRecDepth 100000
set_option maxHeartbeats 2000000
namespace Fs
open Km495

structure Good (b : Book) : Prop where
  n1 : 1 ≤ b.n
  n24 : b.n ≤ 24
  t1 : 1 ≤ b.term
  t20 : b.term ≤ 20
  k1 : 1 ≤ b.behind
  k8 : b.behind ≤ 8
  g1 : 1 ≤ b.grades
  g12 : b.grades ≤ 12
  f100 : b.first ≤ 100
  zero : b.at_ 0 = ⟨0, 0⟩
  dad : ∀ i, 0 < i → i < b.n → (b.at_ i).father < i
  older : ∀ i, 0 < i → i < b.n → (b.at_ (b.at_ i).father).born < (b.at_ i).born
  late : ∀ i, i < b.n → (b.at_ i).born ≤ 2000

theorem up_succ (b : Book) (f i : Nat) : b.up (f + 1) i = if i = 0 then [0] else i :: b.up f (b.at_ i).father := rfl
theorem up_fuel {b : Book} (g : Good b) : ∀ f i, i ≤ f → i < b.n → b.up (f + 1) i = b.up f i
  | 0, i, h, _ => by
    have e : i = 0 := by omega
    subst e
    rfl
  | f + 1, i, h, hn => by
    by_cases c : i = 0
    · subst c
      rfl
    · rw [up_succ b (f + 1) i, up_succ b f i, if_neg c, if_neg c]
      have d := g.dad i (by omega) hn
      rw [up_fuel g f _ (by omega) (by omega)]
theorem line_zero (b : Book) : b.line 0 = [0] := rfl
theorem line_step {b : Book} (g : Good b) {i : Nat} (h0 : i ≠ 0) (hn : i < b.n) : b.line i = i :: b.line (b.at_ i).father := by
  have d := g.dad i (by omega) hn
  have q := g.n24
  show b.up (23 + 1) i = i :: b.up (23 + 1) (b.at_ i).father
  rw [up_fuel g 23 (b.at_ i).father (by omega) (by omega), up_succ, if_neg h0]
theorem line_len {b : Book} (g : Good b) : ∀ i, i < b.n → (b.line i).length ≤ i + 1 ∧ 1 ≤ (b.line i).length := by
  intro i
  induction i using Nat.strongRecOn with
  | _ i ih =>
    intro hn
    by_cases c : i = 0
    · subst c
      exact ⟨Nat.le_refl _, Nat.le_refl _⟩
    · have d := g.dad i (by omega) hn
      have r := ih _ d (by omega)
      rw [line_step g c hn, List.length_cons]
      omega
theorem line_lt {b : Book} (g : Good b) : ∀ i, i < b.n → ∀ m ∈ b.line i, m < b.n := by
  intro i
  induction i using Nat.strongRecOn with
  | _ i ih =>
    intro hn m hm
    by_cases c : i = 0
    · subst c
      rw [line_zero] at hm
      cases hm with
      | head => exact hn
      | tail _ h => cases h
    · have d := g.dad i (by omega) hn
      rw [line_step g c hn] at hm
      cases hm with
      | head => exact hn
      | tail _ h => exact ih _ d (by omega) m h
theorem depth_le {b : Book} (g : Good b) {i : Nat} (hn : i < b.n) : b.depth i ≤ i := by
  have q := line_len g i hn
  unfold Book.depth
  omega
theorem depth_len {b : Book} (g : Good b) {i : Nat} (hn : i < b.n) : (b.line i).length = b.depth i + 1 := by
  have q := line_len g i hn
  unfold Book.depth
  omega
theorem depth_pos {b : Book} (g : Good b) {i : Nat} (h0 : i ≠ 0) (hn : i < b.n) : 1 ≤ b.depth i := by
  have d := g.dad i (by omega) hn
  have q := line_len g (b.at_ i).father (by omega)
  unfold Book.depth
  rw [line_step g h0 hn, List.length_cons]
  omega
theorem set_le {b : Book} (g : Good b) {i : Nat} (hn : i < b.n) : b.set_ i ≤ 184 := by
  have q := depth_le g hn
  have r := g.n24
  have : b.depth i * b.behind ≤ 23 * 8 := Nat.mul_le_mul (by omega) g.k8
  exact this
theorem enters_le {b : Book} (g : Good b) {i : Nat} (hn : i < b.n) : b.enters i ≤ 3780 := by
  have q := set_le g hn
  have r := g.f100
  have : b.set_ i * b.term ≤ 184 * 20 := Nat.mul_le_mul q g.t20
  unfold Book.enters
  omega
theorem gap_le {b : Book} (g : Good b) : b.gap ≤ 160 := Nat.mul_le_mul g.k8 g.t20
theorem at_eq {b : Book} {i : Nat} (h : i < b.n) : b.at_ i = b.men[i]'h := by
  show b.men.getD i ⟨0, 0⟩ = _
  rw [List.getD_eq_getElem?_getD, List.getElem?_eq_getElem h]
  rfl

/-! ### the mutations -/
theorem at_app {b : Book} {m : Man} {i : Nat} (h : i < b.n) : ({ b with men := b.men ++ [m] } : Book).at_ i = b.at_ i := by
  show (b.men ++ [m]).getD i _ = b.men.getD i _
  rw [List.getD_eq_getElem?_getD, List.getD_eq_getElem?_getD, List.getElem?_append_left h]
theorem at_new {b : Book} {m : Man} : ({ b with men := b.men ++ [m] } : Book).at_ b.n = m := by
  show (b.men ++ [m]).getD b.men.length _ = m
  rw [List.getD_eq_getElem?_getD, List.getElem?_append_right (Nat.le_refl _), Nat.sub_self]
  rfl
theorem n_app {b : Book} {m : Man} : ({ b with men := b.men ++ [m] } : Book).n = b.n + 1 := by
  show (b.men ++ [m]).length = _
  rw [List.length_append]
  rfl
theorem Good.son {b : Book} (g : Good b) {p y : Nat} (hp : p < b.n) (hy : y ≤ 2000) (ho : (b.at_ p).born < y) (hn : b.n < 24) : Good { b with men := b.men ++ [⟨p, y⟩] } where
  n1 := by rw [n_app]; omega
  n24 := by rw [n_app]; omega
  t1 := g.t1
  t20 := g.t20
  k1 := g.k1
  k8 := g.k8
  g1 := g.g1
  g12 := g.g12
  f100 := g.f100
  zero := by rw [at_app (by have := g.n1; omega)]; exact g.zero
  dad := fun i h0 hi => by
    rw [n_app] at hi
    by_cases c : i < b.n
    · rw [at_app c]; exact g.dad i h0 c
    · have e : i = b.n := by omega
      subst e
      rw [at_new]
      exact hp
  older := fun i h0 hi => by
    rw [n_app] at hi
    by_cases c : i < b.n
    · have d := g.dad i h0 c
      rw [at_app c, at_app (by omega)]; exact g.older i h0 c
    · have e : i = b.n := by omega
      subst e
      rw [at_new, at_app hp]
      exact ho
  late := fun i hi => by
    rw [n_app] at hi
    by_cases c : i < b.n
    · rw [at_app c]; exact g.late i c
    · have e : i = b.n := by omega
      subst e
      rw [at_new]
      exact hy
theorem at_drop {b : Book} {i : Nat} (h : i < b.n - 1) : ({ b with men := b.men.dropLast } : Book).at_ i = b.at_ i := by
  show b.men.dropLast.getD i _ = b.men.getD i _
  rw [List.getD_eq_getElem?_getD, List.getD_eq_getElem?_getD, List.getElem?_dropLast, if_pos (show i < b.men.length - 1 from h)]
theorem n_drop {b : Book} : ({ b with men := b.men.dropLast } : Book).n = b.n - 1 := List.length_dropLast
theorem Good.drop {b : Book} (g : Good b) (h : b.n ≠ 1) : Good { b with men := b.men.dropLast } where
  n1 := by rw [n_drop]; have := g.n1; omega
  n24 := by rw [n_drop]; have := g.n24; omega
  t1 := g.t1
  t20 := g.t20
  k1 := g.k1
  k8 := g.k8
  g1 := g.g1
  g12 := g.g12
  f100 := g.f100
  zero := by rw [at_drop (by have := g.n1; omega)]; exact g.zero
  dad := fun i h0 hi => by
    rw [n_drop] at hi
    rw [at_drop hi]
    exact g.dad i h0 (by omega)
  older := fun i h0 hi => by
    rw [n_drop] at hi
    have d := g.dad i h0 (by omega)
    rw [at_drop hi, at_drop (by omega)]
    exact g.older i h0 (by omega)
  late := fun i hi => by
    rw [n_drop] at hi
    rw [at_drop hi]
    exact g.late i (by omega)
theorem Good.behind {b : Book} (g : Good b) {k : Nat} (h1 : 1 ≤ k) (h8 : k ≤ 8) : Good { b with behind := k } where
  n1 := g.n1
  n24 := g.n24
  t1 := g.t1
  t20 := g.t20
  k1 := h1
  k8 := h8
  g1 := g.g1
  g12 := g.g12
  f100 := g.f100
  zero := g.zero
  dad := g.dad
  older := g.older
  late := g.late
theorem Good.start {t k g f : Nat} (h : ¬ (t = 0 ∨ 20 < t ∨ k = 0 ∨ 8 < k ∨ g = 0 ∨ 12 < g ∨ 100 < f)) : Good ⟨t, k, g, f, [⟨0, 0⟩]⟩ where
  n1 := Nat.le_refl _
  n24 := by show 1 ≤ 24; decide
  t1 := by show 1 ≤ t; omega
  t20 := by show t ≤ 20; omega
  k1 := by show 1 ≤ k; omega
  k8 := by show k ≤ 8; omega
  g1 := by show 1 ≤ g; omega
  g12 := by show g ≤ 12; omega
  f100 := by show f ≤ 100; omega
  zero := rfl
  dad := fun i h0 hi => by
    have : i < 1 := hi
    omega
  older := fun i h0 hi => by
    have : i < 1 := hi
    omega
  late := fun i hi => by
    have q : i < 1 := hi
    have e : i = 0 := by omega
    subst e
    exact Nat.zero_le _
/-- a book of the same start -/
structure Kin (a b : Book) : Prop where
  t : a.term = b.term
  g : a.grades = b.grades
  f : a.first = b.first
/-- a desk as it may come -/
structure GoodD (d : Desk) : Prop where
  now : Good d.now
  past : ∀ b ∈ d.past, Good b ∧ Kin b d.now
  fut : ∀ b ∈ d.future, Good b ∧ Kin b d.now
  few : d.past.length + d.future.length ≤ 20
theorem GoodD.become {d : Desk} (g : GoodD d) {b : Book} (h : Good b) (k : Kin d.now b) : GoodD (d.become b) where
  now := h
  past := fun x hx => by
    have hx' := List.mem_of_mem_take hx
    cases hx' with
    | head => exact ⟨g.now, k⟩
    | tail _ m =>
      have q := g.past x m
      exact ⟨q.1, q.2.t.trans k.t, q.2.g.trans k.g, q.2.f.trans k.f⟩
  fut := fun x hx => by cases hx
  few := by
    show ((d.now :: d.past).take 20).length + 0 ≤ 20
    rw [List.length_take]
    omega
theorem GoodD.back {d : Desk} (g : GoodD d) {k : Book} {r : List Book} (h : d.past = k :: r) : GoodD ⟨k, r, d.now :: d.future⟩ := by
  have q := g.past k (by rw [h]; exact .head _)
  refine ⟨q.1, fun x hx => ?_, fun x hx => ?_, ?_⟩
  · have z := g.past x (by rw [h]; exact .tail _ hx)
    exact ⟨z.1, z.2.t.trans q.2.t.symm, z.2.g.trans q.2.g.symm, z.2.f.trans q.2.f.symm⟩
  · cases hx with
    | head => exact ⟨g.now, q.2.t.symm, q.2.g.symm, q.2.f.symm⟩
    | tail _ m =>
      have z := g.fut x m
      exact ⟨z.1, z.2.t.trans q.2.t.symm, z.2.g.trans q.2.g.symm, z.2.f.trans q.2.f.symm⟩
  · have z := g.few
    rw [h, List.length_cons] at z
    show r.length + (d.future.length + 1) ≤ 20
    omega
theorem take_all {α : Type} {l : List α} {n : Nat} (h : l.length ≤ n) : l.take n = l := List.take_of_length_le h
theorem GoodD.again {d : Desk} (g : GoodD d) {k : Book} {r : List Book} (h : d.future = k :: r) : GoodD ⟨k, (d.now :: d.past).take PAST, r⟩ ∧ (d.now :: d.past).take PAST = d.now :: d.past := by
  have q := g.fut k (by rw [h]; exact .head _)
  have z := g.few
  rw [h, List.length_cons] at z
  have e : (d.now :: d.past).take PAST = d.now :: d.past := take_all (by rw [List.length_cons]; show _ ≤ 20; omega)
  refine ⟨?_, e⟩
  rw [e]
  refine ⟨q.1, fun x hx => ?_, fun x hx => ?_, ?_⟩
  · cases hx with
    | head => exact ⟨g.now, q.2.t.symm, q.2.g.symm, q.2.f.symm⟩
    | tail _ m =>
      have z := g.past x m
      exact ⟨z.1, z.2.t.trans q.2.t.symm, z.2.g.trans q.2.g.symm, z.2.f.trans q.2.f.symm⟩
  · have z := g.fut x (by rw [h]; exact .tail _ hx)
    exact ⟨z.1, z.2.t.trans q.2.t.symm, z.2.g.trans q.2.g.symm, z.2.f.trans q.2.f.symm⟩
  · show (d.now :: d.past).length + r.length ≤ 20
    rw [List.length_cons]
    omega

/-! ### sums of powers -/
theorem foldl_add (l : List Nat) : ∀ a, l.foldl (· + ·) a = a + l.sum := by
  induction l with
  | nil => intro a; rfl
  | cons x r ih =>
    intro a
    rw [List.foldl_cons, ih, List.sum_cons]
    omega
theorem bits_eq (l : List Nat) : ((bits l : Nat) : Int) = (l.map fun i => ((2 ^ i : Nat) : Int)).sum := by
  unfold bits
  rw [foldl_add, Nat.zero_add]
  induction l with
  | nil => rfl
  | cons x r ih =>
    rw [List.map_cons, List.sum_cons, List.map_cons, List.sum_cons, ← ih]
    omega
theorem sons_eq {b : Book} (g : Good b) (p : Nat) : ((List.range' 1 (b.n - 1)).filter fun i => (b.at_ i).father == p) = b.sons p := by
  have e : List.range b.n = 0 :: List.range' 1 (b.n - 1) := by
    have q := g.n1
    rw [List.range_eq_range']
    have z : b.n = (b.n - 1) + 1 := by omega
    rw [z, List.range'_succ]
    simp
  unfold Book.sons Book.all
  rw [e, List.filter_cons]
  have c : ((0 : Nat) != 0 && (b.at_ 0).father == p) = false := rfl
  rw [c, if_neg Bool.false_ne_true]
  apply List.filter_congr
  intro x hx
  have h1 : 1 ≤ x := (List.mem_range'_1.mp hx).1
  have : (x != 0) = true := by
    rw [bne_iff_ne]
    omega
  rw [this, Bool.true_and]
theorem range_filter_succ (p : Nat → Bool) (i : Nat) : (List.range (i + 1)).filter p = (List.range i).filter p ++ (if p i = true then [i] else []) := by
  rw [List.range_succ, List.filter_append]
  congr 1
  by_cases h : p i = true
  · rw [if_pos h, List.filter_cons, if_pos h]
    rfl
  · rw [if_neg h, List.filter_cons, if_neg h]
    rfl
theorem range1_filter_succ (p : Nat → Bool) (i : Nat) : (List.range' 1 (i + 1)).filter p = (List.range' 1 i).filter p ++ (if p (1 + i) = true then [1 + i] else []) := by
  rw [List.range'_1_concat, List.filter_append]
  congr 1
  by_cases h : p (1 + i) = true
  · rw [if_pos h, List.filter_cons, if_pos h]
    rfl
  · rw [if_neg h, List.filter_cons, if_neg h]
    rfl
end Fs
namespace Fs
open Km495
theorem whole_id (c : List (List Int)) : PyKm495.whole c = c := by
  unfold PyKm495.whole
  split <;> rfl
def arity : Nat → Nat
  | 0 => 4 | 1 => 2 | 2 => 0 | 3 => 1 | 4 => 1 | 5 => 1 | 6 => 2 | 7 => 1 | 8 => 1 | 9 => 1 | 10 => 1 | 11 => 2
  | 12 => 1 | 13 => 1 | 14 => 1 | 15 => 3 | 16 => 1 | 17 => 2 | 18 => 2 | 19 => 5 | 20 => 1 | 21 => 0 | 22 => 0 | _ => 0
theorem shape_is {p : Int} {n k : Nat} (h : PyKm495.shape p = some (n, k)) : ∃ c : Nat, c < 24 ∧ p = (c : Int) ∧ n = arity c ∧ k = 0 := by
  unfold PyKm495.shape at h
  by_cases c0 : p = 0
  · rw [if_pos c0] at h
    cases h
    exact ⟨0, by decide, c0, rfl, rfl⟩
  rw [if_neg c0] at h
  by_cases c1 : p = 1
  · rw [if_pos c1] at h
    cases h
    exact ⟨1, by decide, c1, rfl, rfl⟩
  rw [if_neg c1] at h
  by_cases c2 : p = 2
  · rw [if_pos c2] at h
    cases h
    exact ⟨2, by decide, c2, rfl, rfl⟩
  rw [if_neg c2] at h
  by_cases c3 : p = 3
  · rw [if_pos c3] at h
    cases h
    exact ⟨3, by decide, c3, rfl, rfl⟩
  rw [if_neg c3] at h
  by_cases c4 : p = 4
  · rw [if_pos c4] at h
    cases h
    exact ⟨4, by decide, c4, rfl, rfl⟩
  rw [if_neg c4] at h
  by_cases c5 : p = 5
  · rw [if_pos c5] at h
    cases h
    exact ⟨5, by decide, c5, rfl, rfl⟩
  rw [if_neg c5] at h
  by_cases c6 : p = 6
  · rw [if_pos c6] at h
    cases h
    exact ⟨6, by decide, c6, rfl, rfl⟩
  rw [if_neg c6] at h
  by_cases c7 : p = 7
  · rw [if_pos c7] at h
    cases h
    exact ⟨7, by decide, c7, rfl, rfl⟩
  rw [if_neg c7] at h
  by_cases c8 : p = 8
  · rw [if_pos c8] at h
    cases h
    exact ⟨8, by decide, c8, rfl, rfl⟩
  rw [if_neg c8] at h
  by_cases c9 : p = 9
  · rw [if_pos c9] at h
    cases h
    exact ⟨9, by decide, c9, rfl, rfl⟩
  rw [if_neg c9] at h
  by_cases c10 : p = 10
  · rw [if_pos c10] at h
    cases h
    exact ⟨10, by decide, c10, rfl, rfl⟩
  rw [if_neg c10] at h
  by_cases c11 : p = 11
  · rw [if_pos c11] at h
    cases h
    exact ⟨11, by decide, c11, rfl, rfl⟩
  rw [if_neg c11] at h
  by_cases c12 : p = 12
  · rw [if_pos c12] at h
    cases h
    exact ⟨12, by decide, c12, rfl, rfl⟩
  rw [if_neg c12] at h
  by_cases c13 : p = 13
  · rw [if_pos c13] at h
    cases h
    exact ⟨13, by decide, c13, rfl, rfl⟩
  rw [if_neg c13] at h
  by_cases c14 : p = 14
  · rw [if_pos c14] at h
    cases h
    exact ⟨14, by decide, c14, rfl, rfl⟩
  rw [if_neg c14] at h
  by_cases c15 : p = 15
  · rw [if_pos c15] at h
    cases h
    exact ⟨15, by decide, c15, rfl, rfl⟩
  rw [if_neg c15] at h
  by_cases c16 : p = 16
  · rw [if_pos c16] at h
    cases h
    exact ⟨16, by decide, c16, rfl, rfl⟩
  rw [if_neg c16] at h
  by_cases c17 : p = 17
  · rw [if_pos c17] at h
    cases h
    exact ⟨17, by decide, c17, rfl, rfl⟩
  rw [if_neg c17] at h
  by_cases c18 : p = 18
  · rw [if_pos c18] at h
    cases h
    exact ⟨18, by decide, c18, rfl, rfl⟩
  rw [if_neg c18] at h
  by_cases c19 : p = 19
  · rw [if_pos c19] at h
    cases h
    exact ⟨19, by decide, c19, rfl, rfl⟩
  rw [if_neg c19] at h
  by_cases c20 : p = 20
  · rw [if_pos c20] at h
    cases h
    exact ⟨20, by decide, c20, rfl, rfl⟩
  rw [if_neg c20] at h
  by_cases c21 : p = 21
  · rw [if_pos c21] at h
    cases h
    exact ⟨21, by decide, c21, rfl, rfl⟩
  rw [if_neg c21] at h
  by_cases c22 : p = 22
  · rw [if_pos c22] at h
    cases h
    exact ⟨22, by decide, c22, rfl, rfl⟩
  rw [if_neg c22] at h
  by_cases c23 : p = 23
  · rw [if_pos c23] at h
    cases h
    exact ⟨23, by decide, c23, rfl, rfl⟩
  rw [if_neg c23] at h
  cases h
/-- one call ahead of the rest -/
theorem calls_cons {f : Nat} {p : Int} {r : List Int} {cs : List (List (List Int))} (h : PyFlat.calls PyKm495.shape f (p :: r) = some cs) :
    ∃ (g c : Nat) (cs' : List (List (List Int))), c < 24 ∧ p = (c : Int) ∧ arity c ≤ r.length ∧ cs = [p :: r.take (arity c)] :: cs' ∧ PyFlat.calls PyKm495.shape g (r.drop (arity c)) = some cs' := by
  cases f with
  | zero => cases h
  | succ g =>
    unfold PyFlat.calls PyFlat.call at h
    cases e : PyKm495.shape p with
    | none =>
      simp only [e] at h
      cases h
    | some nk =>
      obtain ⟨n, k⟩ := nk
      obtain ⟨c, hc, hp, hn, hk⟩ := shape_is e
      subst hn hk
      simp only [e] at h
      by_cases q : r.length < arity c
      · rw [if_pos q] at h
        cases h
      · rw [if_neg q] at h
        have e0 : PyFlat.rows 0 (r.drop (arity c)) = some ([], r.drop (arity c)) := rfl
        simp only [e0] at h
        cases e1 : PyFlat.calls PyKm495.shape g (r.drop (arity c)) with
        | none =>
          simp only [e1] at h
          cases h
        | some cs' =>
          simp only [e1] at h
          exact ⟨g, c, cs', hc, hp, by omega, (Option.some.inj h).symm, e1⟩
/-- what is still to be answered, from a state -/
structure Rest (s : Km495Neutral.S) (r : List Int) (out : List Int) (k : Nat) : Prop where
  ex : ∃ (f : Nat) (cs : List (List (List Int))), PyFlat.calls PyKm495.shape f r = some cs ∧ cs.all Km495Neutral.asked1 = true ∧ Km495Neutral.may s cs = true ∧ cs.length ≤ k ∧ out = PyFlat.told (PyFlat.played Km495Neutral.step s cs)
theorem rest_start {l : List Int} (h : PyKm495.answers_asked l = true) : Rest Km495Neutral.start l (PyKm495.answers l) 1000 := by
  unfold PyKm495.answers_asked at h
  cases e : PyFlat.calls PyKm495.shape l.length l with
  | none =>
    rw [e] at h
    cases h
  | some raw =>
    have e1 : raw.map PyKm495.whole = raw := by
      have : PyKm495.whole = id := funext whole_id
      rw [this, List.map_id]
    have e2 : PyKm495.answers l = PyFlat.told (PyFlat.played Km495Neutral.step Km495Neutral.start raw) := by
      unfold PyKm495.answers PyKm495.calls
      rw [e]
      show PyFlat.told (PyFlat.played Km495Neutral.step Km495Neutral.start (raw.map PyKm495.whole)) = _
      rw [e1]
    rw [e] at h
    simp only [Bool.and_eq_true, e1] at h
    obtain ⟨⟨⟨_, hm⟩, ha⟩, _⟩ := h
    unfold Km495Neutral.asked at ha
    simp only [Bool.and_eq_true, decide_eq_true_eq] at ha
    exact ⟨_, raw, e, ha.2.2.1, ha.2.2.2, ha.2.1, e2⟩
theorem rest_nil {s : Km495Neutral.S} {out : List Int} {k : Nat} (h : Rest s [] out k) : out = [] := by
  obtain ⟨f, cs, h1, _, _, _, h4⟩ := h.ex
  have e : cs = [] := by
    cases f with
    | zero => exact (Option.some.inj h1).symm
    | succ f => exact (Option.some.inj h1).symm
  subst e
  exact h4
/-- a number of a call -/
def U32 (z : Int) : Prop := 0 ≤ z ∧ z < 2 ^ 32
theorem nat32 {z : Int} (h : Km495Neutral.natural z 32 = true) : U32 z := by
  unfold Km495Neutral.natural at h
  simp only [decide_eq_true_eq, Bool.and_eq_true] at h
  exact h
theorem asked_nums {c : Nat} {xs : List Int} (hl : xs.length = arity c) (h : Km495Neutral.asked1 [(c : Int) :: xs] = true) : ∀ x ∈ xs, U32 x := by
  unfold Km495Neutral.asked1 at h
  split at h
  all_goals first
    | (cases h; done)
    | (rename_i e; simp only [List.cons.injEq, and_true] at e; obtain ⟨_, e⟩ := e; subst e; try simp only [Bool.and_eq_true] at h
       repeat' (first | exact fun x hx => absurd hx List.not_mem_nil | refine List.forall_mem_cons.mpr ⟨nat32 (by first | exact h | simp only [h]), ?_⟩))
theorem rest_cons {s : Km495Neutral.S} {p : Int} {r out : List Int} {k : Nat} (h : Rest s (p :: r) out k) :
    ∃ (c : Nat) (xs t : List Int) (out' : List Int), c < 24 ∧ p = (c : Int) ∧ xs.length = arity c ∧ r = xs ++ t ∧ (∀ x ∈ xs, U32 x) ∧ (Km495Neutral.step s [(c : Int) :: xs]).2 ≠ [] ∧ 1 ≤ k ∧
      out = (((Km495Neutral.step s [(c : Int) :: xs]).2.length : Nat) : Int) :: (Km495Neutral.step s [(c : Int) :: xs]).2 ++ out' ∧ Rest (Km495Neutral.step s [(c : Int) :: xs]).1 t out' (k - 1) := by
  obtain ⟨f, cs, h1, h2, h3, h5, h4⟩ := h.ex
  obtain ⟨g, c, cs', hc, hp, hl, e, q⟩ := calls_cons h1
  subst e hp
  have hl' : (r.take (arity c)).length = arity c := by
    rw [List.length_take]
    omega
  rw [List.all_cons, Bool.and_eq_true] at h2
  unfold Km495Neutral.may at h3
  rw [Bool.and_eq_true] at h3
  rw [List.length_cons] at h5
  refine ⟨c, r.take (arity c), r.drop (arity c), _, hc, rfl, hl', (List.take_append_drop _ _).symm, asked_nums hl' h2.1, ?_, by omega, ?_, ⟨g, cs', q, h2.2, h3.2, by omega, rfl⟩⟩
  · intro z
    rw [z] at h3
    cases h3.1
  · rw [h4]
    rfl
end Fs
namespace Fs
open PySem PySem.Spec PyProof.Rows L2 Evl
open PySem.W (Codec)
def givenV : List V := [.int 4, .int 2, .int 0, .int 1, .int 1, .int 1, .int 2, .int 1, .int 1, .int 1, .int 1, .int 2, .int 1, .int 1, .int 1, .int 3, .int 1, .int 2, .int 2, .int 5, .int 1, .int 0, .int 0, .int 0]
/-- a def of the top; a method -/
def GFn (K : PySem.W.Frag) (x : Str) (st : Stmt) (f : Addr) : Prop := PySem.W.nsIn K mainGlobals x = some (some (.ref f)) ∧ ∃ fd : FuncData, Fun K x x st f fd
def MFn (K : PySem.W.Frag) (C : Addr) (x qual : Str) (st : Stmt) (f : Addr) : Prop := Meth K C x f ∧ ∃ fd : FuncData, Fun K x qual st f fd
structure KCls (K : PySem.W.Frag) (C : Addr) : Prop where
  cl : Cls K C
  mk' : PySem.W.makesIn K C = true
  kc : PySem.W.keepIn K (.ref C) = true
theorem fn_fact {K : PySem.W.Frag} {x : Str} {st : Stmt} {f : Addr} {oc : Value} {od an : Option Addr} {sl : Array (Option Value)} {kV doc pm cd ct : Value} (a : PySem.W.nsIn K mainGlobals x = some (some (.ref f)))
    (l : K.lookup f = some ⟨oc, od, .func (PySem.W.fnOf x x (defArgs st) (defBody st) (defScope st) .none kV doc pm an cd ct), sl⟩) (c : PySem.W.codeIn K cd x = true) (k : PySem.W.keepIn K (.ref f) = true) : GFn K x st f := ⟨a, _, fun_mk l c k⟩
theorem m_fact {K : PySem.W.Frag} {C : Addr} {x qual : Str} {st : Stmt} {f : Addr} {oc : Value} {od an : Option Addr} {sl : Array (Option Value)} {kV doc pm cd ct : Value} (a : PySem.W.findIn K (.ref C) x = some (some (.ref f))) (i : PySem.W.isFn K (.ref f) = true)
    (l : K.lookup f = some ⟨oc, od, .func (PySem.W.fnOf x qual (defArgs st) (defBody st) (defScope st) .none kV doc pm an cd ct), sl⟩) (c : PySem.W.codeIn K cd qual = true) (k : PySem.W.keepIn K (.ref f) = true) : MFn K C x qual st f := ⟨⟨a, i, k⟩, _, fun_mk l c k⟩
def top (i : Nat) : Stmt := PySem.Challenge.pw_fathersets_s01_answers.main.body.getD i (.Pass ⟨0, 0, 0, 0⟩)
abbrev s_c_init : Stmt := inClass (top 2) 0
abbrev s_c_note : Stmt := inClass (top 2) 1
abbrev s_c_step_back : Stmt := inClass (top 2) 2
abbrev s_c_step_on : Stmt := inClass (top 2) 3
abbrev s_c_how_many_back : Stmt := inClass (top 2) 4
abbrev s_c_how_many_again : Stmt := inClass (top 2) 5
abbrev s_p_init : Stmt := inClass (top 4) 0
abbrev s_p_begin : Stmt := inClass (top 4) 1
abbrev s_p_how_many : Stmt := inClass (top 4) 2
abbrev s_p_has : Stmt := inClass (top 4) 3
abbrev s_p_standing : Stmt := inClass (top 4) 4
abbrev s_p_stand_as : Stmt := inClass (top 4) 5
abbrev s_p_add_son : Stmt := inClass (top 4) 6
abbrev s_p_drop_last : Stmt := inClass (top 4) 7
abbrev s_p_put_behind : Stmt := inClass (top 4) 8
abbrev s_p_take_back : Stmt := inClass (top 4) 9
abbrev s_p_do_again : Stmt := inClass (top 4) 10
abbrev s_p_line_of : Stmt := inClass (top 4) 11
abbrev s_p_fathers_above : Stmt := inClass (top 4) 12
abbrev s_p_sons_of : Stmt := inClass (top 4) 13
abbrev s_p_gap : Stmt := inClass (top 4) 14
abbrev s_p_sets_behind_first : Stmt := inClass (top 4) 15
abbrev s_p_of_one_set : Stmt := inClass (top 4) 16
abbrev s_p_year_in : Stmt := inClass (top 4) 17
abbrev s_p_age_in : Stmt := inClass (top 4) 18
abbrev s_p_grade_in : Stmt := inClass (top 4) 19
abbrev s_as_number : Stmt := top 22
abbrev s_signed : Stmt := top 23
abbrev s_as_set : Stmt := top 24
abbrev s_between : Stmt := top 25
abbrev s_grade_or_refusal : Stmt := top 26
abbrev s_fr_start : Stmt := top 27
abbrev s_fr_son : Stmt := top 28
abbrev s_fr_drop : Stmt := top 29
abbrev s_fr_behind : Stmt := top 30
abbrev s_fr_enters : Stmt := top 31
abbrev s_fr_age : Stmt := top 32
abbrev s_fr_grade : Stmt := top 33
abbrev s_fr_born_into : Stmt := top 34
abbrev s_fr_fathers : Stmt := top 35
abbrev s_fr_drift : Stmt := top 36
abbrev s_fr_line : Stmt := top 37
abbrev s_fr_in_step : Stmt := top 38
abbrev s_fr_too_old : Stmt := top 39
abbrev s_fr_too_young : Stmt := top 40
abbrev s_fr_sons : Stmt := top 41
abbrev s_fr_window : Stmt := top 42
abbrev s_fr_mean : Stmt := top 43
abbrev s_fr_together : Stmt := top 44
abbrev s_fr_elder : Stmt := top 45
abbrev s_fr_balance : Stmt := top 46
abbrev s_fr_told : Stmt := top 47
abbrev s_fr_back : Stmt := top 48
abbrev s_fr_again : Stmt := top 49
abbrev s_fr_state : Stmt := top 50
abbrev s_answer_one : Stmt := top 53
abbrev s_answers : Stmt := top 54
/-- what the top has written of classes, constants and built-in names -/
structure Txt (K : PySem.W.Frag) (mg : Str → Option Value) (C CC : Addr) (fs : List Addr) : Prop where
  cl : Cls K C
  cc : Cls K CC
  n_term : NoAttr K C "term"
  n_behind : NoAttr K C "behind"
  n_grades : NoAttr K C "grades"
  n_first_year : NoAttr K C "first_year"
  n_fathers : NoAttr K C "fathers"
  n_births : NoAttr K C "births"
  n_changes : NoAttr K C "changes"
  n_earlier : NoAttr K CC "earlier"
  n_later : NoAttr K CC "later"
  gP : mg "People" = some (.ref C)
  gC : mg "Changes" = some (.ref CC)
  z_len : mg "len" = none
  z_abs : mg "abs" = none
  z_sum : mg "sum" = none
  z_max : mg "max" = none
  z_range : mg "range" = none
  z_list : mg "list" = none
  i_MOST_TAKEN_BACK : ∃ u, mg "MOST_TAKEN_BACK" = some u ∧ RelV (.int (20)) u
  i_NOT_THERE : ∃ u, mg "NOT_THERE" = some u ∧ RelV (.int (-2)) u
  i_FIRST_ALONE : ∃ u, mg "FIRST_ALONE" = some u ∧ RelV (.int (-6)) u
  i_ALREADY_SO : ∃ u, mg "ALREADY_SO" = some u ∧ RelV (.int (-17)) u
  i_OUT_OF_BOUNDS : ∃ u, mg "OUT_OF_BOUNDS" = some u ∧ RelV (.int (-22)) u
  i_TOO_MANY : ∃ u, mg "TOO_MANY" = some u ∧ RelV (.int (-28)) u
  i_HAS_NONE : ∃ u, mg "HAS_NONE" = some u ∧ RelV (.int (-33)) u
  i_MOST_YEARS_A_TERM : ∃ u, mg "MOST_YEARS_A_TERM" = some u ∧ RelV (.int (20)) u
  i_MOST_SETS_BEHIND : ∃ u, mg "MOST_SETS_BEHIND" = some u ∧ RelV (.int (8)) u
  i_MOST_GRADES : ∃ u, mg "MOST_GRADES" = some u ∧ RelV (.int (12)) u
  i_LATEST_FIRST_SET : ∃ u, mg "LATEST_FIRST_SET" = some u ∧ RelV (.int (100)) u
  i_LATEST_BIRTH : ∃ u, mg "LATEST_BIRTH" = some u ∧ RelV (.int (2000)) u
  i_LATEST_YEAR_ASKED : ∃ u, mg "LATEST_YEAR_ASKED" = some u ∧ RelV (.int (20000)) u
  i_HIGHEST_AGE_ASKED : ∃ u, mg "HIGHEST_AGE_ASKED" = some u ∧ RelV (.int (2000)) u
  i_OLDEST_FATHER_ASKED : ∃ u, mg "OLDEST_FATHER_ASKED" = some u ∧ RelV (.int (100)) u
  i_MOST_FATHERS_ASKED : ∃ u, mg "MOST_FATHERS_ASKED" = some u ∧ RelV (.int (4)) u
  i_MOST_MEN : ∃ u, mg "MOST_MEN" = some u ∧ RelV (.int (24)) u
  t_calls : ∃ a u, mg "CALLS" = some u ∧ RelV (.ref a) u ∧ ∀ H, SqT K H a (fs.map V.ref)
  t_given : ∃ a u, mg "GIVEN" = some u ∧ RelV (.ref a) u ∧ ∀ H, SqT K H a givenV
def spAns (K : PySem.W.Frag) : Sp := fun vs H Q _ => ∃ (a : Addr) (ns : List Int), vs = [.ref a] ∧ SqL K H a (ns.map V.int) ∧ ns.length ≤ 6000 ∧ PyKm495.answers_asked ns = true ∧
  ∀ (H' : Hp) (p : Addr), H' p = some (.lst ((PyKm495.answers ns).map V.int)) → Q (.ref p) H'
/-! ### the heap: how a book and a desk lie in it -/
open Km495 (Book Desk Man)
abbrev nV (n : Nat) : V := .int (n : Int)
def fV (b : Book) : List V := b.men.map fun m => nV m.father
def bV (b : Book) : List V := b.men.map fun m => nV m.born
def pF (t k g f : Nat) (lf lb c : Addr) : List (Str × V) := [("term", nV t), ("behind", nV k), ("grades", nV g), ("first_year", nV f), ("fathers", .ref lf), ("births", .ref lb), ("changes", .ref c)]
def cF (e l : Addr) : List (Str × V) := [("earlier", .ref e), ("later", .ref l)]
theorem lk_here {k : Str} {v : V} {r : List (Str × V)} : List.lookup k ((k, v) :: r) = some v := by
  have e : (k == k) = true := beq_self_eq_true k
  simp only [List.lookup, e]
theorem lk_past {k g : Str} {v : V} {r : List (Str × V)} (h : (k == g) = false) : List.lookup k ((g, v) :: r) = List.lookup k r := by
  simp only [List.lookup, h]
theorem put_here {f : Str} {v x : V} {r : List (Str × V)} : putF f v ((f, x) :: r) = (f, v) :: r := if_pos rfl
theorem put_past {f g : Str} {v x : V} {r : List (Str × V)} (h : ¬ g = f) : putF f v ((g, x) :: r) = (g, x) :: putF f v r := if_neg h
section
variable {t k g f : Nat} {lf lb c : Addr}
theorem pF_term : (pF t k g f lf lb c).lookup ("term" : Str) = some (nV t) := lk_here
theorem pF_behind : (pF t k g f lf lb c).lookup ("behind" : Str) = some (nV k) := (lk_past (by decide +kernel)).trans lk_here
theorem pF_grades : (pF t k g f lf lb c).lookup ("grades" : Str) = some (nV g) := (lk_past (by decide +kernel)).trans ((lk_past (by decide +kernel)).trans lk_here)
theorem pF_first_year : (pF t k g f lf lb c).lookup ("first_year" : Str) = some (nV f) := (lk_past (by decide +kernel)).trans ((lk_past (by decide +kernel)).trans ((lk_past (by decide +kernel)).trans lk_here))
theorem pF_fathers : (pF t k g f lf lb c).lookup ("fathers" : Str) = some (.ref lf) := (lk_past (by decide +kernel)).trans ((lk_past (by decide +kernel)).trans ((lk_past (by decide +kernel)).trans ((lk_past (by decide +kernel)).trans lk_here)))
theorem pF_births : (pF t k g f lf lb c).lookup ("births" : Str) = some (.ref lb) := (lk_past (by decide +kernel)).trans ((lk_past (by decide +kernel)).trans ((lk_past (by decide +kernel)).trans ((lk_past (by decide +kernel)).trans ((lk_past (by decide +kernel)).trans lk_here))))
theorem pF_changes : (pF t k g f lf lb c).lookup ("changes" : Str) = some (.ref c) := (lk_past (by decide +kernel)).trans ((lk_past (by decide +kernel)).trans ((lk_past (by decide +kernel)).trans ((lk_past (by decide +kernel)).trans ((lk_past (by decide +kernel)).trans ((lk_past (by decide +kernel)).trans lk_here)))))
theorem pF_no {m : Str} (h : (([("term" : Str), "behind", "grades", "first_year", "fathers", "births", "changes"] : List Str).all fun x => !(m == x)) = true) : (pF t k g f lf lb c).lookup m = none := by
  simp only [List.all_cons, List.all_nil, Bool.and_true, Bool.and_eq_true, Bool.not_eq_true'] at h
  obtain ⟨h1, h2, h3, h4, h5, h6, h7⟩ := h
  exact (lk_past h1).trans ((lk_past h2).trans ((lk_past h3).trans ((lk_past h4).trans ((lk_past h5).trans ((lk_past h6).trans ((lk_past h7).trans rfl))))))
theorem pF_len : (pF t k g f lf lb c).length < 1000 := by show 7 < 1000; decide
theorem put_term {t' : Nat} : putF "term" (nV t') (pF t k g f lf lb c) = pF t' k g f lf lb c := put_here
theorem put_behind {k' : Nat} : putF "behind" (nV k') (pF t k g f lf lb c) = pF t k' g f lf lb c := (put_past (by decide +kernel)).trans (congrArg _ put_here)
theorem put_grades {g' : Nat} : putF "grades" (nV g') (pF t k g f lf lb c) = pF t k g' f lf lb c := (put_past (by decide +kernel)).trans (congrArg _ ((put_past (by decide +kernel)).trans (congrArg _ put_here)))
theorem put_first_year {f' : Nat} : putF "first_year" (nV f') (pF t k g f lf lb c) = pF t k g f' lf lb c := (put_past (by decide +kernel)).trans (congrArg _ ((put_past (by decide +kernel)).trans (congrArg _ ((put_past (by decide +kernel)).trans (congrArg _ put_here)))))
theorem put_fathers {l : Addr} : putF "fathers" (.ref l) (pF t k g f lf lb c) = pF t k g f l lb c := (put_past (by decide +kernel)).trans (congrArg _ ((put_past (by decide +kernel)).trans (congrArg _ ((put_past (by decide +kernel)).trans (congrArg _ ((put_past (by decide +kernel)).trans (congrArg _ put_here)))))))
theorem put_births {l : Addr} : putF "births" (.ref l) (pF t k g f lf lb c) = pF t k g f lf l c := (put_past (by decide +kernel)).trans (congrArg _ ((put_past (by decide +kernel)).trans (congrArg _ ((put_past (by decide +kernel)).trans (congrArg _ ((put_past (by decide +kernel)).trans (congrArg _ ((put_past (by decide +kernel)).trans (congrArg _ put_here)))))))))
theorem put_changes {l : Addr} : putF "changes" (.ref l) (pF t k g f lf lb c) = pF t k g f lf lb l := (put_past (by decide +kernel)).trans (congrArg _ ((put_past (by decide +kernel)).trans (congrArg _ ((put_past (by decide +kernel)).trans (congrArg _ ((put_past (by decide +kernel)).trans (congrArg _ ((put_past (by decide +kernel)).trans (congrArg _ ((put_past (by decide +kernel)).trans (congrArg _ put_here)))))))))))
theorem pF_new : putF "changes" (.ref c) (putF "births" (.ref lb) (putF "fathers" (.ref lf) (putF "first_year" (nV f) (putF "grades" (nV g) (putF "behind" (nV k) (putF "term" (nV t) [])))))) = pF t k g f lf lb c := by
  have e1 : putF "term" (nV t) [] = [(("term" : Str), nV t)] := rfl
  have e2 : putF "behind" (nV k) [(("term" : Str), nV t)] = [(("term" : Str), nV t), ("behind", nV k)] := (put_past (by decide +kernel)).trans rfl
  have e3 : putF "grades" (nV g) [(("term" : Str), nV t), ("behind", nV k)] = [(("term" : Str), nV t), ("behind", nV k), ("grades", nV g)] := (put_past (by decide +kernel)).trans (congrArg _ ((put_past (by decide +kernel)).trans rfl))
  have e4 : putF "first_year" (nV f) [(("term" : Str), nV t), ("behind", nV k), ("grades", nV g)] = [(("term" : Str), nV t), ("behind", nV k), ("grades", nV g), ("first_year", nV f)] := (put_past (by decide +kernel)).trans (congrArg _ ((put_past (by decide +kernel)).trans (congrArg _ ((put_past (by decide +kernel)).trans rfl))))
  have e5 : putF "fathers" (.ref lf) [(("term" : Str), nV t), ("behind", nV k), ("grades", nV g), ("first_year", nV f)] = [(("term" : Str), nV t), ("behind", nV k), ("grades", nV g), ("first_year", nV f), ("fathers", .ref lf)] := (put_past (by decide +kernel)).trans (congrArg _ ((put_past (by decide +kernel)).trans (congrArg _ ((put_past (by decide +kernel)).trans (congrArg _ ((put_past (by decide +kernel)).trans rfl))))))
  have e6 : putF "births" (.ref lb) [(("term" : Str), nV t), ("behind", nV k), ("grades", nV g), ("first_year", nV f), ("fathers", .ref lf)] = [(("term" : Str), nV t), ("behind", nV k), ("grades", nV g), ("first_year", nV f), ("fathers", .ref lf), ("births", .ref lb)] := (put_past (by decide +kernel)).trans (congrArg _ ((put_past (by decide +kernel)).trans (congrArg _ ((put_past (by decide +kernel)).trans (congrArg _ ((put_past (by decide +kernel)).trans (congrArg _ ((put_past (by decide +kernel)).trans rfl))))))))
  have e7 : putF "changes" (.ref c) [(("term" : Str), nV t), ("behind", nV k), ("grades", nV g), ("first_year", nV f), ("fathers", .ref lf), ("births", .ref lb)] = pF t k g f lf lb c := (put_past (by decide +kernel)).trans (congrArg _ ((put_past (by decide +kernel)).trans (congrArg _ ((put_past (by decide +kernel)).trans (congrArg _ ((put_past (by decide +kernel)).trans (congrArg _ ((put_past (by decide +kernel)).trans (congrArg _ ((put_past (by decide +kernel)).trans rfl))))))))))
  rw [e1, e2, e3, e4, e5, e6, e7]
end
section
variable {e l : Addr}
theorem cF_earlier : (cF e l).lookup ("earlier" : Str) = some (.ref e) := lk_here
theorem cF_later : (cF e l).lookup ("later" : Str) = some (.ref l) := (lk_past (by decide +kernel)).trans lk_here
theorem cF_no {m : Str} (h : (([("earlier" : Str), "later"] : List Str).all fun x => !(m == x)) = true) : (cF e l).lookup m = none := by
  simp only [List.all_cons, List.all_nil, Bool.and_true, Bool.and_eq_true, Bool.not_eq_true'] at h
  obtain ⟨h1, h2⟩ := h
  exact (lk_past h1).trans ((lk_past h2).trans rfl)
theorem cF_len : (cF e l).length < 1000 := by show 2 < 1000; decide
theorem put_later {l' : Addr} : putF "later" (.ref l') (cF e l) = cF e l' := (put_past (by decide +kernel)).trans (congrArg _ put_here)
theorem cF_new : putF "later" (.ref l) (putF "earlier" (.ref e) []) = cF e l := (put_past (by decide +kernel)).trans rfl
end
/-- the book at p, to be read -/
def BookAt (C : Addr) (H : Hp) (p : Addr) (b : Book) : Prop := ∃ dx lf lb c : Addr, H p = some (.ins C dx (pF b.term b.behind b.grades b.first lf lb c)) ∧ H lf = some (.lst (fV b)) ∧ H lb = some (.lst (bV b))
theorem BookAt.ex {C : Addr} {H H' : Hp} {p : Addr} {b : Book} (e : Ex H H') (R : BookAt C H p b) : BookAt C H' p b := by
  obtain ⟨dx, lf, lb, c, h1, h2, h3⟩ := R
  exact ⟨dx, lf, lb, c, e _ _ h1, e _ _ h2, e _ _ h3⟩
theorem fV_at {b : Book} {i : Nat} (h : i < b.n) : (fV b)[i]? = some (nV (b.at_ i).father) := by
  unfold fV
  rw [List.getElem?_map, List.getElem?_eq_getElem (show i < b.men.length from h), at_eq h]
  rfl
theorem bV_at {b : Book} {i : Nat} (h : i < b.n) : (bV b)[i]? = some (nV (b.at_ i).born) := by
  unfold bV
  rw [List.getElem?_map, List.getElem?_eq_getElem (show i < b.men.length from h), at_eq h]
  rfl
theorem fV_len {b : Book} : (fV b).length = b.n := List.length_map ..
theorem bV_len {b : Book} : (bV b).length = b.n := List.length_map ..

/-! ### what evaluates to what: fields, methods, lists put together -/
section
variable {K : PySem.W.Frag} {σ : L2.St} {H H' : Hp} {ta tb te tx to : TE} {tA : TA} {t u : TT} {x y z v : V} {r : R2}
theorem ev_fld {a C dx : Addr} {fs : List (Str × V)} {f : Str} (h : Ev te σ H (.ref a)) (ho : H a = some (.ins C dx fs)) (cl : Cls K C) (na : NoAttr K C f) (l : fs.lookup f = some v) : Ev (tFld K te f) σ H v := fun H1 e Q q =>
  h H1 e _ fun H2 e2 => ⟨a, C, dx, fs, v, rfl, e2 _ _ (e _ _ ho), cl, na, l, q H2 e2⟩
theorem ev_meth {a C dx : Addr} {fs : List (Str × V)} {m : Str} {sp : Sp} {dvs vs : List V} {E : XK} (h : Ev to σ H (.ref a)) (ho : H a = some (.ins C dx fs)) (nm : fs.lookup m = none) (ha : EvA tA σ H vs) (hs : SpV sp (.ref a :: (vs ++ dvs)) H z) :
    Ev (tMeth C m sp dvs E to tA) σ H z := fun H1 e Q q =>
  h H1 e _ fun H2 e2 => ⟨a, dx, fs, rfl, e2 _ _ (e _ _ ho), nm, ha H2 (e.trans e2) _ fun H3 e3 => hs H3 ((e.trans e2).trans e3) Q (fun H4 e4 => q H4 ((e2.trans e3).trans e4)) E⟩
theorem el_meth {a C dx : Addr} {fs : List (Str × V)} {m : Str} {sp : Sp} {dvs vs xs : List V} {E : XK} (h : Ev to σ H (.ref a)) (ho : H a = some (.ins C dx fs)) (nm : fs.lookup m = none) (ha : EvA tA σ H vs) (hs : SpL sp (.ref a :: (vs ++ dvs)) H xs) :
    EvL (tMeth C m sp dvs E to tA) σ H xs := fun H1 e Q q =>
  h H1 e _ fun H2 e2 => ⟨a, dx, fs, rfl, e2 _ _ (e _ _ ho), nm, ha H2 (e.trans e2) _ fun H3 e3 => hs H3 ((e.trans e2).trans e3) Q (fun p H4 hp e4 h4 => q p H4 (fresh_back (e2.trans e3) hp) ((e2.trans e3).trans e4) h4) E⟩
theorem el_cat {xs ys : List V} (ha : EvL ta σ H xs) (hb : EvL tb σ H ys) (hl : xs.length + ys.length ≤ 100000) : EvL (tOp rCat ta tb) σ H (xs ++ ys) := fun H1 e Q q =>
  ha H1 e _ fun p H2 hp e2 h2 => hb H2 (e.trans e2) _ fun p' H3 hp' e3 h3 => ⟨p, p', xs, ys, rfl, rfl, e3 _ _ h2, h3, sz_of hl, fun l hl' => q l _ (fresh_back (e2.trans e3) hl') ((e2.trans e3).trans (Ex.new hl')) upd_same⟩
/-- an item of a list read by its place -/
theorem ev_ix {l : Addr} {xs : List V} {i : Nat} (h : Ev ta σ H (.ref l)) (hi : Ev tb σ H (nV i)) (hl : H l = some (.lst xs)) (hx : xs[i]? = some v) : Ev (tOp (rIxL K) ta tb) σ H v := ev_op h hi (rv_ixL (sq_of hl) (atI_nat hx))
/-- a call with a new list as its one argument -/
theorem el_call1L {sp : Sp} {E : XK} {xs ys : List V} (h : EvL te σ H xs) (hs : ∀ p H1, Ex H H1 → H1 p = some (.lst xs) → SpL sp [.ref p] H1 ys) : EvL (tCall sp [] E (tCons te tNil)) σ H ys := fun H1 e Q q =>
  h H1 e _ fun p H2 hp e2 h2 => hs p H2 (e.trans e2) h2 H2 (Ex.refl H2) Q (fun p' H3 hp' e3 h3 => q p' H3 (fresh_back e2 hp') (e2.trans e3) h3) E
theorem ev_cb1L {rC : List V → Hp → VK → Prop} {xs : List V} (h : EvL te σ H xs) (hs : ∀ p H1, Ex H H1 → H1 p = some (.lst xs) → RC rC [.ref p] H1 z) : Ev (tCB rC (tCons te tNil)) σ H z := fun H1 e Q q =>
  h H1 e _ fun p H2 hp e2 h2 => hs p H2 (e.trans e2) h2 H2 (Ex.refl H2) Q fun H3 e3 => q H3 (e2.trans e3)
theorem ev_int {i j : Int} (h : Ev te σ H (.int i)) (e : i = j) : Ev te σ H (.int j) := e ▸ h
theorem el_is {xs ys : List V} (h : EvL te σ H xs) (e : xs = ys) : EvL te σ H ys := e ▸ h
theorem rc_abs {i : Int} : RC (fun xs H Q => ∃ i, xs = [.int i] ∧ Q (.int (if i < 0 then -i else i)) H) [.int i] H (nV i.natAbs) := fun H1 _ Q q => ⟨i, rfl, by
  have e : (if i < 0 then -i else i) = (i.natAbs : Int) := by split <;> omega
  rw [e]
  exact q H1 (Ex.refl H1)⟩
end
/-! ### promises of what only reads -/
def spP (C : Addr) (F : Book → List Nat → V → Prop) : Sp := fun vs H Q _ => ∃ (p : Addr) (b : Book) (xs : List Nat) (v : V), vs = .ref p :: xs.map nV ∧ BookAt C H p b ∧ F b xs v ∧ RetV v H Q
def spL (C : Addr) (F : Book → List Nat → List V → Prop) : Sp := fun vs H Q _ => ∃ (p : Addr) (b : Book) (xs : List Nat) (ys : List V), vs = .ref p :: xs.map nV ∧ BookAt C H p b ∧ F b xs ys ∧ RetL ys H Q
theorem spP_v {C : Addr} {F : Book → List Nat → V → Prop} {H : Hp} {p : Addr} {b : Book} {v : V} (xs : List Nat) (R : BookAt C H p b) (h : F b xs v) : SpV (spP C F) (.ref p :: xs.map nV) H v := fun H1 e Q q E => ⟨p, b, xs, v, rfl, R.ex e, h, q⟩
theorem spL_l {C : Addr} {F : Book → List Nat → List V → Prop} {H : Hp} {p : Addr} {b : Book} {ys : List V} (xs : List Nat) (R : BookAt C H p b) (h : F b xs ys) : SpL (spL C F) (.ref p :: xs.map nV) H ys := fun H1 e Q q E => ⟨p, b, xs, ys, rfl, R.ex e, h, q⟩
section
variable {K : PySem.W.Frag} {σ : L2.St} {H H' : Hp} {ta tb te to : TE} {tA : TA} {v : V} {C p : Addr} {b : Book} {E : XK}
/-- a method of the book at p -/
theorem ev_pm {m : Str} {F : Book → List Nat → V → Prop} (R : BookAt C H p b) (xs : List Nat) (hf : F b xs v) (ho : Ev to σ H (.ref p)) (ha : EvA tA σ H (xs.map nV))
    (nm : (([("term" : Str), "behind", "grades", "first_year", "fathers", "births", "changes"] : List Str).all fun x => !(m == x)) = true := by decide +kernel) : Ev (tMeth C m (spP C F) [] E to tA) σ H v := by
  obtain ⟨dx, lf, lb, c, h1, h2, h3⟩ := id R
  refine ev_meth ho h1 (pF_no nm) ha ?_
  rw [List.append_nil]
  exact spP_v xs R hf
theorem el_pm {m : Str} {F : Book → List Nat → List V → Prop} {ys : List V} (R : BookAt C H p b) (xs : List Nat) (hf : F b xs ys) (ho : Ev to σ H (.ref p)) (ha : EvA tA σ H (xs.map nV))
    (nm : (([("term" : Str), "behind", "grades", "first_year", "fathers", "births", "changes"] : List Str).all fun x => !(m == x)) = true := by decide +kernel) : EvL (tMeth C m (spL C F) [] E to tA) σ H ys := by
  obtain ⟨dx, lf, lb, c, h1, h2, h3⟩ := id R
  refine el_meth ho h1 (pF_no nm) ha ?_
  rw [List.append_nil]
  exact spL_l xs R hf
theorem ev_call0 {sp : Sp} {vs : List V} (ha : EvA tA σ H vs) (hs : SpV sp vs H v) : Ev (tCall sp [] E tA) σ H v := by
  refine ev_call ha ?_
  rw [List.append_nil]
  exact hs
theorem el_call0 {sp : Sp} {vs xs : List V} (ha : EvA tA σ H vs) (hs : SpL sp vs H xs) : EvL (tCall sp [] E tA) σ H xs := by
  refine el_call ha ?_
  rw [List.append_nil]
  exact hs
end
section
variable {mg : Str → Option Value} {K : PySem.W.Frag} {σ : L2.St} {H H' : Hp} {ta tb te to : TE} {tA : TA} {v : V} {C CC p : Addr} {b : Book} {E : XK} {fs : List Addr}
theorem ev_born (T : Txt K mg C CC fs) (R : BookAt C H p b) {i : Nat} (h : i < b.n) (ho : Ev to σ H (.ref p)) (hi : Ev ta σ H (nV i)) : Ev (tOp (rIxL K) (tFld K to "births") ta) σ H (nV (b.at_ i).born) := by
  obtain ⟨dx, lf, lb, c, h1, h2, h3⟩ := R
  exact ev_ix (ev_fld ho h1 T.cl T.n_births pF_births) hi h3 (bV_at h)
theorem ev_dad (T : Txt K mg C CC fs) (R : BookAt C H p b) {i : Nat} (h : i < b.n) (ho : Ev to σ H (.ref p)) (hi : Ev ta σ H (nV i)) : Ev (tOp (rIxL K) (tFld K to "fathers") ta) σ H (nV (b.at_ i).father) := by
  obtain ⟨dx, lf, lb, c, h1, h2, h3⟩ := R
  exact ev_ix (ev_fld ho h1 T.cl T.n_fathers pF_fathers) hi h2 (fV_at h)
theorem ev_bornN (T : Txt K mg C CC fs) (R : BookAt C H p b) (ho : Ev to σ H (.ref p)) : Ev (tCB (rLenS K) (tCons (tFld K to "births") tNil)) σ H (nV b.n) := by
  obtain ⟨dx, lf, lb, c, h1, h2, h3⟩ := R
  have q := ev_len (K := K) (ev_fld ho h1 T.cl T.n_births pF_births) (sq_of h3)
  rw [bV_len] at q
  exact q
theorem ev_term (T : Txt K mg C CC fs) (R : BookAt C H p b) (ho : Ev to σ H (.ref p)) : Ev (tFld K to "term") σ H (nV b.term) := by
  obtain ⟨dx, lf, lb, c, h1, h2, h3⟩ := R
  exact ev_fld ho h1 T.cl T.n_term pF_term
theorem ev_behind (T : Txt K mg C CC fs) (R : BookAt C H p b) (ho : Ev to σ H (.ref p)) : Ev (tFld K to "behind") σ H (nV b.behind) := by
  obtain ⟨dx, lf, lb, c, h1, h2, h3⟩ := R
  exact ev_fld ho h1 T.cl T.n_behind pF_behind
theorem ev_grades (T : Txt K mg C CC fs) (R : BookAt C H p b) (ho : Ev to σ H (.ref p)) : Ev (tFld K to "grades") σ H (nV b.grades) := by
  obtain ⟨dx, lf, lb, c, h1, h2, h3⟩ := R
  exact ev_fld ho h1 T.cl T.n_grades pF_grades
theorem ev_first (T : Txt K mg C CC fs) (R : BookAt C H p b) (ho : Ev to σ H (.ref p)) : Ev (tFld K to "first_year") σ H (nV b.first) := by
  obtain ⟨dx, lf, lb, c, h1, h2, h3⟩ := R
  exact ev_fld ho h1 T.cl T.n_first_year pF_first_year
end
def f_has : Book → List Nat → V → Prop := fun b xs v => ∃ i, xs = [i] ∧ v = .bl (decide (i < b.n))
def f_how_many : Book → List Nat → V → Prop := fun b xs v => xs = [] ∧ v = nV b.n
def f_above : Book → List Nat → V → Prop := fun b xs v => ∃ i, xs = [i] ∧ Good b ∧ i < b.n ∧ v = nV (b.depth i)
def f_gap : Book → List Nat → V → Prop := fun b xs v => xs = [] ∧ Good b ∧ v = nV b.gap
def f_set : Book → List Nat → V → Prop := fun b xs v => ∃ i, xs = [i] ∧ Good b ∧ i < b.n ∧ v = nV (b.set_ i)
def f_one : Book → List Nat → V → Prop := fun b xs v => ∃ i j, xs = [i, j] ∧ Good b ∧ i < b.n ∧ j < b.n ∧ v = .bl (decide (b.set_ i = b.set_ j))
def f_year : Book → List Nat → V → Prop := fun b xs v => ∃ i, xs = [i] ∧ Good b ∧ i < b.n ∧ v = nV (b.enters i)
def f_age : Book → List Nat → V → Prop := fun b xs v => ∃ i, xs = [i] ∧ Good b ∧ i < b.n ∧ v = .int (b.age i)
def gradeV (b : Book) (i y : Nat) : V := match b.grade i y with
  | none => .non
  | some g => nV g
def gradeL (b : Book) (i y : Nat) : List V := match b.grade i y with
  | none => [.int (-33)]
  | some g => [nV g]
def f_grade : Book → List Nat → V → Prop := fun b xs v => ∃ i y, xs = [i, y] ∧ Good b ∧ i < b.n ∧ v = gradeV b i y
def f_gor : Book → List Nat → List V → Prop := fun b xs ys => ∃ i y, xs = [i, y] ∧ Good b ∧ i < b.n ∧ ys = gradeL b i y
def f_line : Book → List Nat → List V → Prop := fun b xs ys => ∃ i, xs = [i] ∧ Good b ∧ i < b.n ∧ ys = (b.line i).map nV
def f_sons : Book → List Nat → List V → Prop := fun b xs ys => ∃ i, xs = [i] ∧ Good b ∧ i < b.n ∧ ys = (b.sons i).map nV
def spNum : Sp := fun vs H Q _ => ∃ b : Bool, vs = [.bl b] ∧ RetV (.int (if b = true then 1 else 0)) H Q
def spSigned : Sp := fun vs H Q _ => ∃ z : Int, vs = [.int z] ∧ RetL ((Km495.signed z).map nV) H Q
def spSet (K : PySem.W.Frag) : Sp := fun vs H Q _ => ∃ (a : Addr) (ms : List Nat), vs = [.ref a] ∧ SqL K H a (ms.map nV) ∧ ms.length ≤ 1000 ∧ (∀ m ∈ ms, m ≤ 1000) ∧ RetL [nV ms.length, nV (Km495.bits ms)] H Q
def spBetween : Sp := fun vs H Q _ => ∃ a b c : Int, vs = [.int a, .int b, .int c] ∧ RetV (.bl (decide (a ≤ c) && decide (c ≤ b))) H Q
theorem spNum_v {b : Bool} {H : Hp} : SpV spNum [.bl b] H (.int (if b = true then 1 else 0)) := fun H1 e Q q E => ⟨b, rfl, q⟩
theorem spSigned_l {z : Int} {H : Hp} : SpL spSigned [.int z] H ((Km495.signed z).map nV) := fun H1 e Q q E => ⟨z, rfl, q⟩
theorem spBetween_v {a b c : Int} {H : Hp} : SpV spBetween [.int a, .int b, .int c] H (.bl (decide (a ≤ c) && decide (c ≤ b))) := fun H1 e Q q E => ⟨a, b, c, rfl, q⟩
theorem spSet_l {K : PySem.W.Frag} {a : Addr} {ms : List Nat} {H : Hp} (h : SqL K H a (ms.map nV)) (h1 : ms.length ≤ 1000) (h2 : ∀ m ∈ ms, m ≤ 1000) : SpL (spSet K) [.ref a] H [nV ms.length, nV (Km495.bits ms)] := fun H1 e Q q E => ⟨a, ms, rfl, ex_l e h, h1, h2, q⟩
end Fs
namespace Fs
open PySem PySem.Spec PyProof.Rows L2 Evl
open Km495 (Book Desk Man)

theorem et_yes {σ : L2.St} {H : Hp} : EvT tYes σ H true := fun H1 _ _ q => q H1 (Ex.refl H1)
theorem rv_isN {x : V} {H : Hp} : RV (fun x y H Q => y = .non ∧ Q (.bl (decide (x = .non))) H) x .non H (.bl (decide (x = .non))) := fun H1 _ _ q => ⟨rfl, q H1 (Ex.refl H1)⟩
theorem rc_sum {K : PySem.W.Frag} {p : Addr} {H : Hp} {ns : List Int} (h : H p = some (.lst (ns.map V.int))) : RC (rSum K) [.ref p] H (.int ns.sum) := fun H1 e Q q => ⟨p, ns, rfl, sq_of (e _ _ h), q H1 (Ex.refl H1)⟩
theorem el_lcR2 {σ : L2.St} {H : Hp} {t : TT} {te : TE} {ta : TA} {j : Nat} {vs : List Nat} {lo n : Int} (f : Nat → Bool) (v : Nat → V) (h : EvA ta σ H [.int lo, .int n]) (hn : 0 ≤ lo ∧ lo ≤ n ∧ n ≤ 40000) (hw : ∀ x, wipe ((wipe σ vs).set j (some x)) vs = wipe σ vs)
    (ht : ∀ (i : Nat) H1, Ex H H1 → lo + (i : Int) < n → EvT t ((wipe σ vs).set j (some (.int (lo + (i : Int))))) H1 (f i)) (he : ∀ (i : Nat) H1, Ex H H1 → lo + (i : Int) < n → f i = true → Ev te ((wipe σ vs).set j (some (.int (lo + (i : Int))))) H1 (v i)) :
    EvL (tLc (iRng2 ta) (gName j) t te vs) σ H (given (n - lo).toNat f v) := fun H0 e Q q => h H0 e _ fun H1 e1 => ⟨lo, n, rfl, ⟨by omega, by omega, by omega, by omega⟩, fun Dl hD =>
  lc_range (lo := lo) (n := (n - lo).toNat) (Cw H1 f v Dl) ⟨hD, Ex.new hD, upd_same⟩ (fun i H' hi p =>
    ⟨hw _, cw_turn p (by omega) (ht i H1 (e.trans e1) (by omega)) (fun hf => he i H1 (e.trans e1) (by omega) hf)⟩) (fun H' p => q Dl H' (fresh_back e1 p.1) (e1.trans p.2.1) p.2.2)⟩
theorem bl_lt {i n : Nat} : V.bl (decide ((i : Int) < (n : Int))) = V.bl (decide (i < n)) := congrArg V.bl (decide_eq_decide.mpr Int.ofNat_lt)
theorem bl_le {i n : Nat} : V.bl (decide ((i : Int) ≤ (n : Int))) = V.bl (decide (i ≤ n)) := congrArg V.bl (decide_eq_decide.mpr Int.ofNat_le)
theorem bl_eq {i n : Nat} : V.bl (decide (nV i = nV n)) = V.bl (decide (i = n)) := congrArg V.bl (decide_eq_decide.mpr ⟨fun h => Int.ofNat.inj (V.int.inj h), fun h => by rw [h]⟩)
theorem cmul_nat {i j : Nat} (h : i < 2 ^ 64) : CMul (i : Int) (j : Int) := .inl ⟨by omega, by omega⟩
section
variable {P : Program} {w : World} {K : PySem.W.Frag} {mg : Str → Option Value} {base : Heap} {C CC : Addr} {fs : List Addr}
abbrev N_p_how_many : List Str := ["self"]
theorem sc_p_how_many : FnScope N_p_how_many ["self"] (defScope s_p_how_many) := ⟨rfl, rfl, rfl, by decide +kernel, rfl, by decide +kernel, by decide +kernel⟩
theorem ok_p_how_many {f : Addr} {fd : FuncData} (F : Fun K "how_many" "People.how_many" s_p_how_many f fd) (T : Txt K mg C CC fs) : FnOk P w K mg base CX0 1 f fd ["self"] (spP C f_how_many) := by
  refine F.ok sc_p_how_many (fun vs H Q E h => ?_) (fun cdv A outer s H vs Q E hr h => ?_)
  · obtain ⟨p, b, xs, v, rfl, _, ⟨rfl, _⟩, _⟩ := h
    rfl
  · obtain ⟨p, b, xs, v, rfl, R, ⟨rfl, rfl⟩, k⟩ := h
    refine ⟨_, (pss_one (ps_ret (pe_callB call_len_seq (by rfl) T.z_len PySem.boot_len (pa_cons (pe_fld (pv 0) rfl) pa_nil)))), ?_⟩
    exact s_ret (ev_bornN T R (ev_var rfl)) k
abbrev N_p_has : List Str := ["self", "man"]
theorem sc_p_has : FnScope N_p_has ["self", "man"] (defScope s_p_has) := ⟨rfl, rfl, rfl, by decide +kernel, rfl, by decide +kernel, by decide +kernel⟩
theorem ok_p_has {f : Addr} {fd : FuncData} (F : Fun K "has" "People.has" s_p_has f fd) (T : Txt K mg C CC fs) : FnOk P w K mg base CX0 1 f fd ["self", "man"] (spP C f_has) := by
  refine F.ok sc_p_has (fun vs H Q E h => ?_) (fun cdv A outer s H vs Q E hr h => ?_)
  · obtain ⟨p, b, xs, v, rfl, _, ⟨i, rfl, _⟩, _⟩ := h
    rfl
  · obtain ⟨p, b, xs, v, rfl, R, ⟨i, rfl, rfl⟩, k⟩ := h
    refine ⟨_, (pss_one (ps_ret (pe_cmpR op_lt (pv 1) (pe_callB call_len_seq (by rfl) T.z_len PySem.boot_len (pa_cons (pe_fld (pv 0) rfl) pa_nil)) (nomark _)))), ?_⟩
    exact s_ret (ev_is (ev_op (ev_var rfl) (ev_bornN T R (ev_var rfl)) rv_I0) bl_lt) k
abbrev N_p_line_of : List Str := ["self", "man", "line"]
theorem sc_p_line_of : FnScope N_p_line_of ["self", "man"] (defScope s_p_line_of) := ⟨rfl, rfl, rfl, by decide +kernel, rfl, by decide +kernel, by decide +kernel⟩
theorem ok_p_line_of {f : Addr} {fd : FuncData} (F : Fun K "line_of" "People.line_of" s_p_line_of f fd) (T : Txt K mg C CC fs) : FnOk P w K mg base CX0 1 f fd ["self", "man"] (spL C f_line) := by
  refine F.ok sc_p_line_of (fun vs H Q E h => ?_) (fun cdv A outer s H vs Q E hr h => ?_)
  · obtain ⟨p, b, xs, v, rfl, _, ⟨i, rfl, _⟩, _⟩ := h
    rfl
  · obtain ⟨p, b, xs, v, rfl, R, ⟨i, rfl, g, hi, rfl⟩, k⟩ := h
    refine ⟨_, (pss_cons (ps_set (i := 2) sc_p_line_of.nd rfl (Or.inl rfl) (pe_lst (pa_cons (pv 1) pa_nil)))
      (pss_cons (ps_while PassesOwn.never (pt_cmpR op_ne (pv 1) pe_int (nomark _)) (pss_cons (ps_set (i := 1) sc_p_line_of.nd rfl (Or.inl rfl) (pe_ix ix_list (pe_fld (pv 0) rfl) (pv 1) (fun _ _ => rfl)))
      (pss_one (ps_expr (pe_bm PySem.F.plainAttrs_list PySem.F.slot_list_append PySem.F.type_list_append mt_append (pv 2) (pa_cons (pv 1) pa_nil))))))
      (pss_one (ps_ret (pv 2))))), ?_⟩
    refine q_asgL (el_lst (ea_cons (ev_var rfl) ea_nil) (by show 1 ≤ 100000; decide)) (fun l H1 hl e1 h1 => ?_)
    refine q_while (fun m σ' H' => ∃ (man : Nat) (pre : List Nat), m = man ∧ σ' = [some (.ref p), some (nV man), some (.ref l)] ∧ Ex H H' ∧ H' l = some (.lst ((pre ++ [man]).map nV)) ∧ man < b.n ∧ pre.length + man ≤ i ∧ pre ++ b.line man = b.line i) i
      ⟨i, [], rfl, rfl, e1, h1, hi, by simp, rfl⟩ ?_
    rintro m σ' H' ⟨man, pre, rfl, rfl, e2, h2, hm, hlen, hline⟩
    refine ⟨_, et_test (ev_op (ev_var rfl) ev_c (rv_ne rfl)), fun hb H3 e3 => ?_, fun hb H3 e3 => ?_⟩
    · have h0 : m ≠ 0 := by
        intro z
        subst z
        exact absurd hb (by decide)
      have d := g.dad m (by omega) hm
      refine ⟨_, fun σ2 H2 h => h, ?_⟩
      refine q_asg (ev_dad T ((R.ex e2).ex e3) hm (ev_var rfl) (ev_var rfl)) (fun H4 e4 => ?_)
      refine s_app (l := l) (e4 _ _ (e3 _ _ h2)) (ev_var rfl) (ev_var rfl) (by rw [List.length_map, List.length_append, List.length_singleton]; have := g.n24; omega) (fun H5 e5 => ?_)
      refine ⟨(b.at_ m).father, d, (b.at_ m).father, pre ++ [m], rfl, rfl, Ex.mut (((e2.trans e3).trans e4).trans e5) hl, ?_, by omega, by rw [List.length_append, List.length_singleton]; omega, ?_⟩
      · rw [upd_same]
        simp only [List.map_append, List.map_cons, List.map_nil]
      · rw [← hline, line_step g h0 hm, List.append_assoc]
        rfl
    · have h0 : m = 0 := by
        have z : decide (nV m = .int 0) = true := by
          cases q : decide (nV m = .int 0) with
          | true => rfl
          | false =>
            rw [q] at hb
            cases hb
        exact Int.ofNat.inj (V.int.inj (of_decide_eq_true z))
      subst h0
      rw [line_zero] at hline
      rw [hline] at h2
      exact s_ret (ev_var rfl) fun H4 e4 => k _ _ hl ((e2.trans e3).trans e4) (e4 _ _ (e3 _ _ h2))
abbrev N_p_fathers_above : List Str := ["self", "man"]
theorem sc_p_fathers_above : FnScope N_p_fathers_above ["self", "man"] (defScope s_p_fathers_above) := ⟨rfl, rfl, rfl, by decide +kernel, rfl, by decide +kernel, by decide +kernel⟩
theorem ok_p_fathers_above {f : Addr} {fd : FuncData} (F : Fun K "fathers_above" "People.fathers_above" s_p_fathers_above f fd) (T : Txt K mg C CC fs) (m_p_line_of : C8.Met P w K mg base 1 C "line_of" (spL C f_line) []) : FnOk P w K mg base CX0 2 f fd ["self", "man"] (spP C f_above) := by
  refine F.ok sc_p_fathers_above (fun vs H Q E h => ?_) (fun cdv A outer s H vs Q E hr h => ?_)
  · obtain ⟨p, b, xs, v, rfl, _, ⟨i, rfl, _⟩, _⟩ := h
    rfl
  · obtain ⟨p, b, xs, v, rfl, R, ⟨i, rfl, g, hi, rfl⟩, k⟩ := h
    refine ⟨_, (pss_one (ps_ret (pe_op op_sub (pe_callB call_len_seq (by rfl) T.z_len PySem.boot_len (pa_cons (C8.pe_mt m_p_line_of hr (by decide) (pv 0) (pa_cons (pv 1) pa_nil)) pa_nil)) pe_int))), ?_⟩
    exact s_ret (ev_is (ev_op (ev_lenN (el_pm R [i] ⟨i, rfl, g, hi, rfl⟩ (ev_var rfl) (ea_cons (ev_var rfl) ea_nil))) ev_c rv_I0) (by
      rw [List.length_map, depth_len g hi]
      show V.int (((b.depth i + 1 : Nat) : Int) - 1) = V.int ((b.depth i : Nat) : Int)
      congr 1
      omega)) k
abbrev N_p_sons_of : List Str := ["self", "man", "son"]
theorem sc_p_sons_of : FnScope N_p_sons_of ["self", "man"] (defScope s_p_sons_of) := ⟨rfl, rfl, rfl, by decide +kernel, rfl, by decide +kernel, by decide +kernel⟩
theorem ok_p_sons_of {f : Addr} {fd : FuncData} (F : Fun K "sons_of" "People.sons_of" s_p_sons_of f fd) (T : Txt K mg C CC fs) (m_p_how_many : C8.Met P w K mg base 1 C "how_many" (spP C f_how_many) []) : FnOk P w K mg base CX0 2 f fd ["self", "man"] (spL C f_sons) := by
  refine F.ok sc_p_sons_of (fun vs H Q E h => ?_) (fun cdv A outer s H vs Q E hr h => ?_)
  · obtain ⟨p, b, xs, v, rfl, _, ⟨i, rfl, _⟩, _⟩ := h
    rfl
  · obtain ⟨p, b, xs, v, rfl, R, ⟨i, rfl, g, hi, rfl⟩, k⟩ := h
    refine ⟨_, (pss_one (ps_ret (pe_lc (own := [("son", 2)]) (g := gName 2) (tt := (tTest (tOp rEq (tOp (rIxL K) (tFld K (tVar 0) "fathers") (tVar 2)) (tVar 1)))) (te := (tVar 2)) rfl sc_p_sons_of.nd (pi_range2 rfl T.z_range (pa_cons pe_int (pa_cons (C8.pe_mt0 m_p_how_many hr (by decide) (pv 0)) pa_nil))) (blkOk_by (own := [("son", 2)]) (N := N_p_sons_of) (sc := defScope s_p_sons_of) (by decide +kernel)) (fun _ _ _ _ _ => pg_name (i := 2) sc_p_sons_of.nd rfl (Or.inl rfl)) (fun _ _ _ _ _ => by exact (pts_one (pt_cmpR op_eq (pe_ix ix_list (pe_fld (pv 0) rfl) (pv 2) (fun _ _ => rfl)) (pv 1) (nomark _)))) (fun _ _ _ _ _ => by exact (pv 2))))), ?_⟩
    refine s_retL (el_is (el_lcR2 (lo := 1) (n := (b.n : Int)) (fun j => (b.at_ (1 + j)).father == i) (fun j => nV (1 + j)) (ea_cons ev_c (ea_cons (ev_pm R [] ⟨rfl, rfl⟩ (ev_var rfl) ea_nil) ea_nil)) ⟨by decide, by have := g.n1; omega, by have := g.n24; omega⟩ (fun _ => rfl) (fun j H1 e1 hj => ?_) (fun j H1 e1 hj hf => ?_)) ?_) k
    · have hj' : 1 + j < b.n := by omega
      have e0 : (1 : Int) + (j : Int) = ((1 + j : Nat) : Int) := by omega
      rw [e0]
      exact et_test (ev_is (ev_op (ev_dad T (R.ex e1) hj' (ev_var rfl) (ev_var rfl)) (ev_var rfl) (rv_eq rfl)) bl_eq)
    · have e0 : (1 : Int) + (j : Int) = ((1 + j : Nat) : Int) := by omega
      rw [e0]
      exact ev_var rfl
    · rw [← sons_eq g i, List.range'_eq_map_range, List.filter_map, List.map_map]
      unfold given
      have e0 : ((b.n : Int) - 1).toNat = b.n - 1 := by omega
      rw [e0]
      rfl
abbrev N_p_gap : List Str := ["self"]
theorem sc_p_gap : FnScope N_p_gap ["self"] (defScope s_p_gap) := ⟨rfl, rfl, rfl, by decide +kernel, rfl, by decide +kernel, by decide +kernel⟩
theorem ok_p_gap {f : Addr} {fd : FuncData} (F : Fun K "gap" "People.gap" s_p_gap f fd) (T : Txt K mg C CC fs) : FnOk P w K mg base CX0 1 f fd ["self"] (spP C f_gap) := by
  refine F.ok sc_p_gap (fun vs H Q E h => ?_) (fun cdv A outer s H vs Q E hr h => ?_)
  · obtain ⟨p, b, xs, v, rfl, _, ⟨rfl, _⟩, _⟩ := h
    rfl
  · obtain ⟨p, b, xs, v, rfl, R, ⟨rfl, g, rfl⟩, k⟩ := h
    refine ⟨_, (pss_one (ps_ret (pe_op op_mul (pe_fld (pv 0) rfl) (pe_fld (pv 0) rfl)))), ?_⟩
    exact s_ret (ev_is (ev_op (ev_behind T R (ev_var rfl)) (ev_term T R (ev_var rfl)) (rv_I (cmul_nat (by have := g.k8; omega)))) (congrArg V.int (Int.natCast_mul _ _).symm)) k
abbrev N_p_sets_behind_first : List Str := ["self", "man"]
theorem sc_p_sets_behind_first : FnScope N_p_sets_behind_first ["self", "man"] (defScope s_p_sets_behind_first) := ⟨rfl, rfl, rfl, by decide +kernel, rfl, by decide +kernel, by decide +kernel⟩
theorem ok_p_sets_behind_first {f : Addr} {fd : FuncData} (F : Fun K "sets_behind_first" "People.sets_behind_first" s_p_sets_behind_first f fd) (T : Txt K mg C CC fs) (m_p_fathers_above : C8.Met P w K mg base 2 C "fathers_above" (spP C f_above) []) : FnOk P w K mg base CX0 3 f fd ["self", "man"] (spP C f_set) := by
  refine F.ok sc_p_sets_behind_first (fun vs H Q E h => ?_) (fun cdv A outer s H vs Q E hr h => ?_)
  · obtain ⟨p, b, xs, v, rfl, _, ⟨i, rfl, _⟩, _⟩ := h
    rfl
  · obtain ⟨p, b, xs, v, rfl, R, ⟨i, rfl, g, hi, rfl⟩, k⟩ := h
    refine ⟨_, (pss_one (ps_ret (pe_op op_mul (C8.pe_mt m_p_fathers_above hr (by decide) (pv 0) (pa_cons (pv 1) pa_nil)) (pe_fld (pv 0) rfl)))), ?_⟩
    exact s_ret (ev_is (ev_op (ev_pm R [i] ⟨i, rfl, g, hi, rfl⟩ (ev_var rfl) (ea_cons (ev_var rfl) ea_nil)) (ev_behind T R (ev_var rfl)) (rv_I (cmul_nat (by have := depth_le g hi; have := g.n24; omega)))) (congrArg V.int (Int.natCast_mul _ _).symm)) k
abbrev N_p_of_one_set : List Str := ["self", "man", "other"]
theorem sc_p_of_one_set : FnScope N_p_of_one_set ["self", "man", "other"] (defScope s_p_of_one_set) := ⟨rfl, rfl, rfl, by decide +kernel, rfl, by decide +kernel, by decide +kernel⟩
theorem ok_p_of_one_set {f : Addr} {fd : FuncData} (F : Fun K "of_one_set" "People.of_one_set" s_p_of_one_set f fd) (T : Txt K mg C CC fs) (m_p_sets_behind_first : C8.Met P w K mg base 3 C "sets_behind_first" (spP C f_set) []) : FnOk P w K mg base CX0 4 f fd ["self", "man", "other"] (spP C f_one) := by
  refine F.ok sc_p_of_one_set (fun vs H Q E h => ?_) (fun cdv A outer s H vs Q E hr h => ?_)
  · obtain ⟨p, b, xs, v, rfl, _, ⟨i, j, rfl, _⟩, _⟩ := h
    rfl
  · obtain ⟨p, b, xs, v, rfl, R, ⟨i, j, rfl, g, hi, hj, rfl⟩, k⟩ := h
    refine ⟨_, (pss_one (ps_ret (pe_cmpR op_eq (C8.pe_mt m_p_sets_behind_first hr (by decide) (pv 0) (pa_cons (pv 1) pa_nil)) (C8.pe_mt m_p_sets_behind_first hr (by decide) (pv 0) (pa_cons (pv 2) pa_nil)) (nomark _)))), ?_⟩
    exact s_ret (ev_is (ev_op (ev_pm R [i] ⟨i, rfl, g, hi, rfl⟩ (ev_var rfl) (ea_cons (ev_var rfl) ea_nil)) (ev_pm R [j] ⟨j, rfl, g, hj, rfl⟩ (ev_var rfl) (ea_cons (ev_var rfl) ea_nil)) (rv_eq rfl)) bl_eq) k
abbrev N_p_year_in : List Str := ["self", "man"]
theorem sc_p_year_in : FnScope N_p_year_in ["self", "man"] (defScope s_p_year_in) := ⟨rfl, rfl, rfl, by decide +kernel, rfl, by decide +kernel, by decide +kernel⟩
theorem ok_p_year_in {f : Addr} {fd : FuncData} (F : Fun K "year_in" "People.year_in" s_p_year_in f fd) (T : Txt K mg C CC fs) (m_p_sets_behind_first : C8.Met P w K mg base 3 C "sets_behind_first" (spP C f_set) []) : FnOk P w K mg base CX0 4 f fd ["self", "man"] (spP C f_year) := by
  refine F.ok sc_p_year_in (fun vs H Q E h => ?_) (fun cdv A outer s H vs Q E hr h => ?_)
  · obtain ⟨p, b, xs, v, rfl, _, ⟨i, rfl, _⟩, _⟩ := h
    rfl
  · obtain ⟨p, b, xs, v, rfl, R, ⟨i, rfl, g, hi, rfl⟩, k⟩ := h
    refine ⟨_, (pss_one (ps_ret (pe_op op_add (pe_fld (pv 0) rfl) (pe_op op_mul (C8.pe_mt m_p_sets_behind_first hr (by decide) (pv 0) (pa_cons (pv 1) pa_nil)) (pe_fld (pv 0) rfl))))), ?_⟩
    exact s_ret (ev_is (ev_op (ev_first T R (ev_var rfl)) (ev_op (ev_pm R [i] ⟨i, rfl, g, hi, rfl⟩ (ev_var rfl) (ea_cons (ev_var rfl) ea_nil)) (ev_term T R (ev_var rfl)) (rv_I (cmul_nat (by have := set_le g hi; omega)))) rv_I0) (by
      show V.int ((b.first : Int) + ((b.set_ i : Nat) : Int) * (b.term : Int)) = V.int ((b.first + b.set_ i * b.term : Nat) : Int)
      rw [Int.natCast_add, Int.natCast_mul])) k
abbrev N_p_age_in : List Str := ["self", "man"]
theorem sc_p_age_in : FnScope N_p_age_in ["self", "man"] (defScope s_p_age_in) := ⟨rfl, rfl, rfl, by decide +kernel, rfl, by decide +kernel, by decide +kernel⟩
theorem ok_p_age_in {f : Addr} {fd : FuncData} (F : Fun K "age_in" "People.age_in" s_p_age_in f fd) (T : Txt K mg C CC fs) (m_p_year_in : C8.Met P w K mg base 4 C "year_in" (spP C f_year) []) : FnOk P w K mg base CX0 5 f fd ["self", "man"] (spP C f_age) := by
  refine F.ok sc_p_age_in (fun vs H Q E h => ?_) (fun cdv A outer s H vs Q E hr h => ?_)
  · obtain ⟨p, b, xs, v, rfl, _, ⟨i, rfl, _⟩, _⟩ := h
    rfl
  · obtain ⟨p, b, xs, v, rfl, R, ⟨i, rfl, g, hi, rfl⟩, k⟩ := h
    refine ⟨_, (pss_one (ps_ret (pe_op op_sub (C8.pe_mt m_p_year_in hr (by decide) (pv 0) (pa_cons (pv 1) pa_nil)) (pe_ix ix_list (pe_fld (pv 0) rfl) (pv 1) (fun _ _ => rfl))))), ?_⟩
    exact s_ret (ev_op (ev_pm R [i] ⟨i, rfl, g, hi, rfl⟩ (ev_var rfl) (ea_cons (ev_var rfl) ea_nil)) (ev_born T R hi (ev_var rfl) (ev_var rfl)) rv_I0) k
abbrev N_p_grade_in : List Str := ["self", "man", "year", "years_since", "grade"]
theorem sc_p_grade_in : FnScope N_p_grade_in ["self", "man", "year"] (defScope s_p_grade_in) := ⟨rfl, rfl, rfl, by decide +kernel, rfl, by decide +kernel, by decide +kernel⟩
theorem ok_p_grade_in {f : Addr} {fd : FuncData} (F : Fun K "grade_in" "People.grade_in" s_p_grade_in f fd) (T : Txt K mg C CC fs) (m_p_year_in : C8.Met P w K mg base 4 C "year_in" (spP C f_year) []) : FnOk P w K mg base CX0 5 f fd ["self", "man", "year"] (spP C f_grade) := by
  refine F.ok sc_p_grade_in (fun vs H Q E h => ?_) (fun cdv A outer s H vs Q E hr h => ?_)
  · obtain ⟨p, b, xs, v, rfl, _, ⟨i, j, rfl, _⟩, _⟩ := h
    rfl
  · obtain ⟨p, b, xs, v, rfl, R, ⟨i, y, rfl, g, hi, rfl⟩, k⟩ := h
    refine ⟨_, (pss_cons (ps_set (i := 3) sc_p_grade_in.nd rfl (Or.inl rfl) (pe_op op_sub (pv 2) (C8.pe_mt m_p_year_in hr (by decide) (pv 0) (pa_cons (pv 1) pa_nil))))
      (pss_cons (ps_if (pt_cmpR op_lt (pv 3) pe_int (nomark _)) (pss_one (ps_ret pe_non)) pss_nil)
      (pss_cons (ps_set (i := 4) sc_p_grade_in.nd rfl (Or.inl rfl) (pe_op op_fdivN (pv 3) (pe_fld (pv 0) rfl)))
      (pss_cons (ps_if (pt_cmpR op_ge (pv 4) (pe_fld (pv 0) rfl) (nomark _)) (pss_one (ps_ret pe_non)) pss_nil)
      (pss_one (ps_ret (pv 4))))))), ?_⟩
    refine q_asg (ev_op (ev_var rfl) (ev_pm R [i] ⟨i, rfl, g, hi, rfl⟩ (ev_var rfl) (ea_cons (ev_var rfl) ea_nil)) rv_I0) (fun H1 e1 => ?_)
    refine q_when (et_test (ev_op (ev_var rfl) ev_c rv_I0)) (fun hb H2 e2 => ?_) (fun hb H2 e2 => ?_)
    · have c : y < b.enters i := by
        have := of_decide_eq_true hb
        omega
      have e : gradeV b i y = .non := by
        unfold gradeV Km495.Book.grade
        rw [if_pos c]
      rw [e] at k
      exact s_ret ev_c fun H3 e3 => k _ ((e1.trans e2).trans e3)
    · have c : ¬ y < b.enters i := by
        have := of_decide_eq_false hb
        omega
      have t0 := g.t1
      have t1 := g.t20
      have e0 : ((y : Int) - (b.enters i : Int)).fdiv (b.term : Int) = (((y - b.enters i) / b.term : Nat) : Int) := by
        have z : (y : Int) - (b.enters i : Int) = ((y - b.enters i : Nat) : Int) := by omega
        rw [z, Int.fdiv_eq_ediv_of_nonneg _ (by omega)]
        rfl
      refine q_asg (ev_is (ev_op (ev_var rfl) (ev_term T ((R.ex e1).ex e2) (ev_var rfl)) (rv_I ⟨by omega, by omega⟩)) (congrArg V.int e0)) (fun H3 e3 => ?_)
      refine q_when (et_test (ev_op (ev_var rfl) (ev_grades T (((R.ex e1).ex e2).ex e3) (ev_var rfl)) rv_I0)) (fun hb H4 e4 => ?_) (fun hb H4 e4 => ?_)
      · have c2 : ¬ (y - b.enters i) / b.term < b.grades := by
          have := of_decide_eq_true hb
          omega
        have e : gradeV b i y = .non := by
          unfold gradeV Km495.Book.grade
          rw [if_neg c, if_neg c2]
        rw [e] at k
        exact s_ret ev_c fun H5 e5 => k _ ((((e1.trans e2).trans e3).trans e4).trans e5)
      · have c2 : (y - b.enters i) / b.term < b.grades := by
          have := of_decide_eq_false hb
          omega
        have e : gradeV b i y = nV ((y - b.enters i) / b.term) := by
          unfold gradeV Km495.Book.grade
          rw [if_neg c, if_pos c2]
        rw [e] at k
        exact s_ret (ev_var rfl) fun H5 e5 => k _ ((((e1.trans e2).trans e3).trans e4).trans e5)
abbrev N_as_number : List Str := ["holds"]
theorem sc_as_number : FnScope N_as_number ["holds"] (defScope s_as_number) := ⟨rfl, rfl, rfl, by decide +kernel, rfl, by decide +kernel, by decide +kernel⟩
theorem ok_as_number {f : Addr} {fd : FuncData} (F : Fun K "as_number" "as_number" s_as_number f fd) (T : Txt K mg C CC fs) : FnOk P w K mg base CX0 1 f fd ["holds"] spNum := by
  refine F.ok sc_as_number (fun vs H Q E h => ?_) (fun cdv A outer s H vs Q E hr h => ?_)
  · obtain ⟨b, rfl, _⟩ := h
    rfl
  · obtain ⟨b, rfl, k⟩ := h
    refine ⟨_, (pss_one (ps_ret (pe_ifExp (pt_val (pv 0)) pe_int pe_int))), ?_⟩
    exact s_ret (ev_if (et_B (ev_var rfl)) (fun hb => by rw [if_pos hb]; exact ev_c) (fun hb => by rw [if_neg (by rw [hb]; decide)]; exact ev_c)) k
abbrev N_signed : List Str := ["number"]
theorem sc_signed : FnScope N_signed ["number"] (defScope s_signed) := ⟨rfl, rfl, rfl, by decide +kernel, rfl, by decide +kernel, by decide +kernel⟩
theorem ok_signed {f : Addr} {fd : FuncData} (F : Fun K "signed" "signed" s_signed f fd) (T : Txt K mg C CC fs) (c_as_number : C8.Cal P w K mg base 1 "as_number" spNum []) : FnOk P w K mg base CX0 2 f fd ["number"] spSigned := by
  refine F.ok sc_signed (fun vs H Q E h => ?_) (fun cdv A outer s H vs Q E hr h => ?_)
  · obtain ⟨z, rfl, _⟩ := h
    rfl
  · obtain ⟨z, rfl, k⟩ := h
    refine ⟨_, (pss_one (ps_ret (pe_lst (pa_cons (C8.pe_c c_as_number hr (by decide) (by rfl) (pa_cons (pe_cmpR op_lt (pv 0) pe_int (nomark _)) pa_nil)) (pa_cons (pe_callB call_abs (by rfl) T.z_abs (by decide +kernel) (pa_cons (pv 0) pa_nil)) pa_nil))))), ?_⟩
    refine s_retL (el_is (el_lst (ea_cons (ev_call0 (ea_cons (ev_op (ev_var rfl) ev_c rv_I0) ea_nil) spNum_v) (ea_cons (ev_cb (ea_cons (ev_var rfl) ea_nil) rc_abs) ea_nil)) (by show 2 ≤ 100000; decide)) ?_) k
    unfold Km495.signed
    by_cases c : z < 0
    · simp [c]
    · simp [c]
abbrev N_as_set : List Str := ["men", "man"]
theorem sc_as_set : FnScope N_as_set ["men"] (defScope s_as_set) := ⟨rfl, rfl, rfl, by decide +kernel, rfl, by decide +kernel, by decide +kernel⟩
theorem ok_as_set {f : Addr} {fd : FuncData} (F : Fun K "as_set" "as_set" s_as_set f fd) (T : Txt K mg C CC fs) : FnOk P w K mg base CX0 1 f fd ["men"] (spSet K) := by
  refine F.ok sc_as_set (fun vs H Q E h => ?_) (fun cdv A outer s H vs Q E hr h => ?_)
  · obtain ⟨a, ms, rfl, _⟩ := h
    rfl
  · obtain ⟨a, ms, rfl, hS, hl, hm, k⟩ := h
    refine ⟨_, (pss_one (ps_ret (pe_lst (pa_cons (pe_callB call_len_seq (by rfl) T.z_len PySem.boot_len (pa_cons (pv 0) pa_nil)) (pa_cons (pe_callB (cr_sum rfl) (by rfl) T.z_sum (by decide +kernel) (pa_cons (pe_lc (own := [("man", 1)]) (g := gName 1) (tt := tYes) (te := (tOp (rI CPow fun i j => .int (i * 2 ^ j.toNat)) (tC (.int 1)) (tVar 1))) rfl sc_as_set.nd (pi_list (pv 0)) (blkOk_by (own := [("man", 1)]) (N := N_as_set) (sc := defScope s_as_set) (by decide +kernel)) (fun _ _ _ _ _ => pg_name (i := 1) sc_as_set.nd rfl (Or.inl rfl)) (fun _ _ _ _ _ => by exact pts_nil) (fun _ _ _ _ _ => by exact (pe_op op_shl pe_int (pv 1)))) pa_nil)) pa_nil))))), ?_⟩
    have hx : ∀ (j : Nat) (x : V), (ms.map nV)[j]? = some x → ∃ m, ms[j]? = some m ∧ x = nV m := by
      intro j x q
      rw [List.getElem?_map] at q
      cases e : ms[j]? with
      | none =>
        rw [e] at q
        cases q
      | some m =>
        rw [e] at q
        exact ⟨m, rfl, (Option.some.inj q).symm⟩
    refine s_retL (el_is (el_lst (ea_cons (ev_len (ev_var rfl) hS) (ea_cons (ev_cb1L (xs := (ms.map fun m => ((2 ^ m : Nat) : Int)).map V.int) (el_is (el_lcL (xs := ms.map nV) (fun _ => true) (fun j => .int ((2 ^ ms.getD j 0 : Nat) : Int)) (ev_var rfl) hS (by rw [List.length_map]; omega) (fun _ => rfl) (fun j x H1 e1 q => et_yes) (fun j x H1 e1 q _ => ?_)) ?_) (fun p H1 e1 h1 => rc_sum h1)) ea_nil)) (by show 2 ≤ 100000; decide)) ?_) k
    · obtain ⟨m, q1, rfl⟩ := hx j x q
      have hm' := hm m (List.mem_of_getElem? q1)
      have eD : ms.getD j 0 = m := by
        rw [List.getD_eq_getElem?_getD, q1]
        rfl
      refine ev_is (ev_op ev_c (ev_var rfl) (rv_I ⟨by omega, by omega, by decide⟩)) ?_
      show V.int (1 * 2 ^ m) = V.int ((2 ^ ms.getD j 0 : Nat) : Int)
      rw [eD, Int.one_mul]
      congr 1
    · unfold given
      rw [List.filter_eq_self.mpr (fun m _ => rfl)]
      apply List.ext_getElem?
      intro j
      rw [List.getElem?_map, List.getElem?_map, List.getElem?_map, List.length_map]
      by_cases c : j < ms.length
      · rw [List.getElem?_range c, List.getElem?_eq_getElem c]
        show some (V.int ((2 ^ ms.getD j 0 : Nat) : Int)) = some (V.int ((2 ^ ms[j] : Nat) : Int))
        rw [List.getD_eq_getElem?_getD, List.getElem?_eq_getElem c]
        rfl
      · rw [List.getElem?_eq_none (by rw [List.length_range]; omega), List.getElem?_eq_none (show ms.length ≤ j by omega)]
        rfl
    · show [V.int (((ms.map nV).length : Nat) : Int), V.int ((ms.map fun m => ((2 ^ m : Nat) : Int)).sum)] = _
      rw [List.length_map, ← bits_eq]
abbrev N_between : List Str := ["low", "high", "number"]
theorem sc_between : FnScope N_between ["low", "high", "number"] (defScope s_between) := ⟨rfl, rfl, rfl, by decide +kernel, rfl, by decide +kernel, by decide +kernel⟩
theorem ok_between {f : Addr} {fd : FuncData} (F : Fun K "between" "between" s_between f fd) (T : Txt K mg C CC fs) : FnOk P w K mg base CX0 1 f fd ["low", "high", "number"] spBetween := by
  refine F.ok sc_between (fun vs H Q E h => ?_) (fun cdv A outer s H vs Q E hr h => ?_)
  · obtain ⟨a, b, c, rfl, _⟩ := h
    rfl
  · obtain ⟨a, b, c, rfl, k⟩ := h
    refine ⟨_, (pss_one (ps_ret (pe_and (pe_cmpR op_le (pv 0) (pv 2) (nomark _)) (pe_one (pe_cmpR op_le (pv 2) (pv 1) (nomark _)))))), ?_⟩
    exact s_ret (ev_andV (ev_op (ev_var rfl) (ev_var rfl) rv_I0) (fun _ => ev_op (ev_var rfl) (ev_var rfl) rv_I0)) k
abbrev N_grade_or_refusal : List Str := ["people", "man", "year", "grade"]
theorem sc_grade_or_refusal : FnScope N_grade_or_refusal ["people", "man", "year"] (defScope s_grade_or_refusal) := ⟨rfl, rfl, rfl, by decide +kernel, rfl, by decide +kernel, by decide +kernel⟩
theorem ok_grade_or_refusal {f : Addr} {fd : FuncData} (F : Fun K "grade_or_refusal" "grade_or_refusal" s_grade_or_refusal f fd) (T : Txt K mg C CC fs) (m_p_grade_in : C8.Met P w K mg base 5 C "grade_in" (spP C f_grade) []) : FnOk P w K mg base CX0 6 f fd ["people", "man", "year"] (spL C f_gor) := by
  refine F.ok sc_grade_or_refusal (fun vs H Q E h => ?_) (fun cdv A outer s H vs Q E hr h => ?_)
  · obtain ⟨p, b, xs, v, rfl, _, ⟨i, j, rfl, _⟩, _⟩ := h
    rfl
  · obtain ⟨p, b, xs, v, rfl, R, ⟨i, y, rfl, g, hi, rfl⟩, k⟩ := h
    refine ⟨_, (pss_cons (ps_set (i := 3) sc_grade_or_refusal.nd rfl (Or.inl rfl) (C8.pe_mt m_p_grade_in hr (by decide) (pv 0) (pa_cons (pv 1) (pa_cons (pv 2) pa_nil))))
      (pss_cons (ps_if (pt_cmpR op_isN (pv 3) pe_non (nomark _)) (pss_one (ps_ret (pe_lst (pa_cons (C8.pe_gc rfl T.i_HAS_NONE) pa_nil)))) pss_nil)
      (pss_one (ps_ret (pe_lst (pa_cons (pv 3) pa_nil)))))), ?_⟩
    refine q_asg (ev_pm R [i, y] ⟨i, y, rfl, g, hi, rfl⟩ (ev_var rfl) (ea_cons (ev_var rfl) (ea_cons (ev_var rfl) ea_nil))) (fun H1 e1 => ?_)
    have q : (b.grade i y = none ∧ gradeV b i y = .non ∧ gradeL b i y = [.int (-33)]) ∨ ∃ z, gradeV b i y = nV z ∧ gradeL b i y = [nV z] := by
      unfold gradeV gradeL
      cases b.grade i y with
      | none => exact Or.inl ⟨rfl, rfl, rfl⟩
      | some z => exact .inr ⟨z, rfl, rfl⟩
    rcases q with ⟨_, q1, q2⟩ | ⟨z, q1, q2⟩
    · rw [q2] at k
      rw [q1]
      exact q_when (et_test (ev_op (ev_var rfl) ev_c rv_isN)) (fun hb H2 e2 => s_retL (el_lst (ea_cons ev_c ea_nil) (by show 1 ≤ 100000; decide)) fun p' H3 hp e3 h3 => k.go (e1.trans e2) hp e3 h3) (fun hb => absurd hb (by decide))
    · rw [q2] at k
      rw [q1]
      exact q_when (et_test (ev_op (ev_var rfl) ev_c rv_isN)) (fun hb => absurd hb (by simp)) (fun hb H2 e2 => s_retL (el_lst (ea_cons (ev_var rfl) ea_nil) (by show 1 ≤ 100000; decide)) fun p' H3 hp e3 h3 => k.go (e1.trans e2) hp e3 h3)
end
end Fs
namespace Fs
open PySem PySem.Spec PyProof.Rows L2 Evl
open Km495 (Book Desk Man)
/-! ### the desk in the heap -/
structure Ent where
  a : Addr
  lf : Addr
  lb : Addr
def entV (x : Ent × Book) : V := .ref x.1.a
def EntAt (H : Hp) (e : Ent) (b : Book) : Prop := H e.a = some (.tup [nV b.behind, .ref e.lf, .ref e.lb]) ∧ H e.lf = some (.lst (fV b)) ∧ H e.lb = some (.lst (bV b))
def own (ps : List (Ent × Book)) : List Addr := ps.flatMap fun x => [x.1.lf, x.1.lb]
structure Lay (C CC : Addr) (H0 H : Hp) (p : Addr) (d : Desk) (dx c dc lf lb le ll : Addr) (ps fs : List (Ent × Book)) : Prop where
  ex : Ex H0 H
  hp : H p = some (.ins C dx (pF d.now.term d.now.behind d.now.grades d.now.first lf lb c))
  hc : H c = some (.ins CC dc (cF le ll))
  hf : H lf = some (.lst (fV d.now))
  hb : H lb = some (.lst (bV d.now))
  he : H le = some (.lst (ps.reverse.map entV))
  hl : H ll = some (.lst (fs.reverse.map entV))
  hps : ∀ x ∈ ps, EntAt H x.1 x.2
  hfs : ∀ x ∈ fs, EntAt H x.1 x.2
  ep : d.past = ps.map (·.2)
  ef : d.future = fs.map (·.2)
  nd : (lf :: lb :: le :: ll :: (own ps ++ own fs)).Nodup
  fr : ∀ a ∈ p :: c :: lf :: lb :: le :: ll :: (own ps ++ own fs), H0 a = none
def DeskAt (C CC : Addr) (H0 H : Hp) (p : Addr) (d : Desk) : Prop := ∃ (dx c dc lf lb le ll : Addr) (ps fs : List (Ent × Book)), Lay C CC H0 H p d dx c dc lf lb le ll ps fs
theorem EntAt.same {H H' : Hp} {e : Ent} {b : Book} (x : Ex H H') (h : EntAt H e b) : EntAt H' e b := ⟨x _ _ h.1, x _ _ h.2.1, x _ _ h.2.2⟩
theorem mem_own {ps : List (Ent × Book)} {a : Addr} : a ∈ own ps ↔ ∃ x ∈ ps, a = x.1.lf ∨ a = x.1.lb := by
  unfold own
  rw [List.mem_flatMap]
  constructor
  · rintro ⟨x, hx, h⟩
    refine ⟨x, hx, ?_⟩
    cases h with
    | head => exact .inl rfl
    | tail _ h =>
      cases h with
      | head => exact .inr rfl
      | tail _ h => cases h
  · rintro ⟨x, hx, h | h⟩
    · exact ⟨x, hx, h ▸ .head _⟩
    · exact ⟨x, hx, h ▸ .tail _ (.head _)⟩
section
variable {C CC p : Addr} {H0 H H' : Hp} {d : Desk}
theorem DeskAt.book (D : DeskAt C CC H0 H p d) : BookAt C H p d.now := by
  obtain ⟨dx, c, dc, lf, lb, le, ll, ps, fs, L⟩ := D
  exact ⟨dx, lf, lb, c, L.hp, L.hf, L.hb⟩
theorem DeskAt.ex (D : DeskAt C CC H0 H p d) : Ex H0 H := by
  obtain ⟨dx, c, dc, lf, lb, le, ll, ps, fs, L⟩ := D
  exact L.ex
theorem DeskAt.same (e : Ex H H') (D : DeskAt C CC H0 H p d) : DeskAt C CC H0 H' p d := by
  obtain ⟨dx, c, dc, lf, lb, le, ll, ps, fs, L⟩ := D
  exact ⟨dx, c, dc, lf, lb, le, ll, ps, fs, L.ex.trans e, e _ _ L.hp, e _ _ L.hc, e _ _ L.hf, e _ _ L.hb, e _ _ L.he, e _ _ L.hl, fun x hx => (L.hps x hx).same e, fun x hx => (L.hfs x hx).same e, L.ep, L.ef, L.nd, L.fr⟩
/-- what lies apart may change -/
theorem DeskAt.frame (D : DeskAt C CC H0 H p d) {q : Addr} {xs : List V} {o : HO} (hq : H0 q = some (.lst xs)) : DeskAt C CC (upd H0 q o) (upd H q o) p d := by
  obtain ⟨dx, c, dc, lf, lb, le, ll, ps, fs, L⟩ := D
  have ne : ∀ a ∈ p :: c :: lf :: lb :: le :: ll :: (own ps ++ own fs), a ≠ q := fun a ha z => by
    have h := L.fr a ha
    rw [z, hq] at h
    cases h
  have nt : ∀ (x : Ent × Book), EntAt H x.1 x.2 → x.1.a ≠ q := fun x hx z => by
    have h := hx.1
    rw [z, L.ex _ _ hq] at h
    cases h
  have nE : ∀ (x : Ent × Book), EntAt H x.1 x.2 → x.1.lf ∈ own ps ++ own fs → x.1.lb ∈ own ps ++ own fs → EntAt (upd H q o) x.1 x.2 := fun x hx h1 h2 => by
    refine ⟨?_, ?_, ?_⟩
    · rw [upd_ne (nt x hx)]
      exact hx.1
    · rw [upd_ne (ne _ (by simp [h1]))]
      exact hx.2.1
    · rw [upd_ne (ne _ (by simp [h2]))]
      exact hx.2.2
  refine ⟨dx, c, dc, lf, lb, le, ll, ps, fs, ?_, ?_, ?_, ?_, ?_, ?_, ?_, fun x hx => nE x (L.hps x hx) ?_ ?_, fun x hx => nE x (L.hfs x hx) ?_ ?_, L.ep, L.ef, L.nd, fun a ha => ?_⟩
  · intro a u e
    by_cases z : a = q
    · subst z
      rw [upd_same] at e ⊢
      exact e
    · rw [upd_ne z] at e ⊢
      exact L.ex _ _ e
  · rw [upd_ne (ne _ (by simp))]; exact L.hp
  · rw [upd_ne (ne _ (by simp))]; exact L.hc
  · rw [upd_ne (ne _ (by simp))]; exact L.hf
  · rw [upd_ne (ne _ (by simp))]; exact L.hb
  · rw [upd_ne (ne _ (by simp))]; exact L.he
  · rw [upd_ne (ne _ (by simp))]; exact L.hl
  · exact List.mem_append_left _ (mem_own.mpr ⟨x, hx, .inl rfl⟩)
  · exact List.mem_append_left _ (mem_own.mpr ⟨x, hx, .inr rfl⟩)
  · exact List.mem_append_right _ (mem_own.mpr ⟨x, hx, .inl rfl⟩)
  · exact List.mem_append_right _ (mem_own.mpr ⟨x, hx, .inr rfl⟩)
  · rw [upd_ne (ne a ha)]
    exact L.fr a ha
end
/-- ahead of a start -/
def zeroDesk : Desk := ⟨⟨0, 0, 0, 0, []⟩, [], []⟩
def rep : Km495Neutral.S → Desk
  | none => zeroDesk
  | some d => d
def GoodS : Km495Neutral.S → Prop
  | none => True
  | some d => GoodD d
/-- a call's promise: the call's number and its numbers, and the state -/
def callL (c : Nat) (xs : List Nat) : Km495Neutral.Call := [(c : Int) :: xs.map fun (n : Nat) => (n : Int)]
def spU (C CC : Addr) (c : Nat) : Sp := fun vs H Q _ => ∃ (H0 : Hp) (p : Addr) (s : Km495Neutral.S) (xs : List Nat), vs = .ref p :: xs.map nV ∧ xs.length = arity c ∧ DeskAt C CC H0 H p (rep s) ∧ GoodS s ∧ (Km495Neutral.step s (callL c xs)).2 ≠ [] ∧
  ∀ (q : Addr) (H' : Hp), H0 q = none → DeskAt C CC H0 H' p (rep (Km495Neutral.step s (callL c xs)).1) → GoodS (Km495Neutral.step s (callL c xs)).1 → H' q = some (.lst ((Km495Neutral.step s (callL c xs)).2.map V.int)) → Q (.ref q) H'
theorem step_some {d : Desk} {c : Km495Neutral.Call} {x : Km495.Call} (h : Km495Neutral.callOf c = some x) : Km495Neutral.step (some d) c = (some (Km495.act d x).1, Km495Neutral.told (Km495.act d x).2) := by
  unfold Km495Neutral.step
  rw [h]
theorem step_none {c : Km495Neutral.Call} {x : Km495.Call} (h : Km495Neutral.callOf c = some x) (hs : Km495Neutral.isStart x = false) : Km495Neutral.step none c = (none, []) := by
  unfold Km495Neutral.step
  rw [h]
  show (if Km495Neutral.isStart x = true then _ else _) = _
  rw [hs, if_neg Bool.false_ne_true]
section
variable {C CC : Addr} {H : Hp} {Q : VK} {E : XK} {vs : List V}
/-- a call that is no start is made of a desk -/
theorem u_some {c : Nat} (h : spU C CC c vs H Q E) {f : List Nat → Km495.Call} (hc : ∀ xs, xs.length = arity c → Km495Neutral.callOf (callL c xs) = some (f xs)) (hs : ∀ xs, Km495Neutral.isStart (f xs) = false) :
    ∃ (H0 : Hp) (p : Addr) (d : Desk) (xs : List Nat), vs = .ref p :: xs.map nV ∧ xs.length = arity c ∧ DeskAt C CC H0 H p d ∧ GoodD d ∧
      ∀ (q : Addr) (H' : Hp), H0 q = none → DeskAt C CC H0 H' p (Km495.act d (f xs)).1 → GoodD (Km495.act d (f xs)).1 → H' q = some (.lst ((Km495Neutral.told (Km495.act d (f xs)).2).map V.int)) → Q (.ref q) H' := by
  obtain ⟨H0, p, s, xs, rfl, hl, D, g, hne, k⟩ := h
  cases s with
  | none => exact absurd (congrArg Prod.snd (step_none (hc xs hl) (hs xs))) hne
  | some d =>
    rw [step_some (hc xs hl)] at k
    exact ⟨H0, p, d, xs, rfl, hl, D, g, k⟩
theorem u_query {c : Nat} (h : spU C CC c vs H Q E) {f : List Nat → Km495.Call} (hc : ∀ xs, xs.length = arity c → Km495Neutral.callOf (callL c xs) = some (f xs)) (hs : ∀ xs, Km495Neutral.isStart (f xs) = false) (hd : ∀ d xs, (Km495.act d (f xs)).1 = d) :
    ∃ (H0 : Hp) (p : Addr) (d : Desk) (xs : List Nat), vs = .ref p :: xs.map nV ∧ xs.length = arity c ∧ DeskAt C CC H0 H p d ∧ GoodD d ∧ RetL ((Km495Neutral.told (Km495.act d (f xs)).2).map V.int) H Q := by
  obtain ⟨H0, p, d, xs, e, hl, D, g, k⟩ := u_some h hc hs
  refine ⟨H0, p, d, xs, e, hl, D, g, fun q H2 hq e2 h2 => ?_⟩
  have z := hd d xs
  exact k q H2 (fresh_back D.ex hq) (by rw [z]; exact D.same e2) (by rw [z]; exact g) h2
theorem u_q0 {c : Nat} (x : Km495.Call) (h : spU C CC c vs H Q E) (ha : arity c = 0 := by rfl) (hc : Km495Neutral.callOf (callL c []) = some x := by rfl) (hs : Km495Neutral.isStart x = false := by rfl) (hd : ∀ d, (Km495.act d x).1 = d := by intro _; rfl) :
    ∃ (H0 : Hp) (p : Addr) (d : Desk), vs = [.ref p] ∧ DeskAt C CC H0 H p d ∧ GoodD d ∧ RetL ((Km495Neutral.told (Km495.act d x).2).map V.int) H Q := by
  obtain ⟨H0, p, d, xs, e, hl, D, g, k⟩ := u_query h (f := fun _ => x) (fun xs hl => by rw [ha] at hl; rw [List.eq_nil_of_length_eq_zero hl]; exact hc) (fun _ => hs) (fun d _ => hd d)
  rw [ha] at hl
  have e0 := List.eq_nil_of_length_eq_zero hl
  subst e0
  exact ⟨H0, p, d, e, D, g, k⟩
theorem u_q1 {c : Nat} (x : Nat → Km495.Call) (h : spU C CC c vs H Q E) (ha : arity c = 1 := by rfl) (hc : ∀ i, Km495Neutral.callOf (callL c [i]) = some (x i) := by intro _; rfl) (hs : ∀ i, Km495Neutral.isStart (x i) = false := by intro _; rfl) (hd : ∀ d i, (Km495.act d (x i)).1 = d := by intro _ _; rfl) :
    ∃ (H0 : Hp) (p : Addr) (d : Desk) (i : Nat), vs = [.ref p, nV i] ∧ DeskAt C CC H0 H p d ∧ GoodD d ∧ RetL ((Km495Neutral.told (Km495.act d (x i)).2).map V.int) H Q := by
  obtain ⟨H0, p, d, xs, e, hl, D, g, k⟩ := u_query h (f := fun xs => x (xs.headD 0)) (fun xs hl => by
    rw [ha] at hl
    match xs, hl with
    | [i], _ => exact hc i) (fun _ => hs _) (fun d _ => hd d _)
  rw [ha] at hl
  match xs, hl with
  | [i], _ => exact ⟨H0, p, d, i, e, D, g, k⟩
theorem u_q2 {c : Nat} (x : Nat → Nat → Km495.Call) (h : spU C CC c vs H Q E) (ha : arity c = 2 := by rfl) (hc : ∀ i j, Km495Neutral.callOf (callL c [i, j]) = some (x i j) := by intro _ _; rfl) (hs : ∀ i j, Km495Neutral.isStart (x i j) = false := by intro _ _; rfl) (hd : ∀ d i j, (Km495.act d (x i j)).1 = d := by intro _ _ _; rfl) :
    ∃ (H0 : Hp) (p : Addr) (d : Desk) (i j : Nat), vs = [.ref p, nV i, nV j] ∧ DeskAt C CC H0 H p d ∧ GoodD d ∧ RetL ((Km495Neutral.told (Km495.act d (x i j)).2).map V.int) H Q := by
  obtain ⟨H0, p, d, xs, e, hl, D, g, k⟩ := u_query h (f := fun xs => x (xs.getD 0 0) (xs.getD 1 0)) (fun xs hl => by
    rw [ha] at hl
    match xs, hl with
    | [i, j], _ => exact hc i j) (fun _ => hs _ _) (fun d _ => hd d _ _)
  rw [ha] at hl
  match xs, hl with
  | [i, j], _ => exact ⟨H0, p, d, i, j, e, D, g, k⟩
theorem u_len {c n : Nat} (h : spU C CC c vs H Q E) (e : arity c + 1 = n) : vs.length = n := by
  obtain ⟨H0, p, s, xs, rfl, hl, _⟩ := h
  rw [List.length_cons, List.length_map, hl]
  exact e
end
theorem told_map (v : Int) (l : List Nat) : (Km495Neutral.told ⟨v, l⟩).map V.int = V.int v :: l.map nV := by
  unfold Km495Neutral.told Km495Neutral.nums
  rw [List.map_cons, List.map_map]
  rfl
theorem ret_of {xs ys : List V} {H : Hp} {Q : VK} (k : RetL xs H Q) (e : xs = ys) : RetL ys H Q := e ▸ k
theorem no_true {b : Book} {i : Nat} (h : ¬ i < b.n) : b.no i = true := decide_eq_true (Nat.le_of_not_lt h)
theorem no_false {b : Book} {i : Nat} (h : i < b.n) : ¬ b.no i = true := fun z => absurd (of_decide_eq_true z) (Nat.not_le_of_lt h)
section
variable {K : PySem.W.Frag} {σ : L2.St} {H H1 : Hp} {C p : Addr} {b : Book} {E : XK} {D : Ends}
theorem refuse {z : Int} (k : RetL [.int z] H D.rt) (e1 : Ex H H1) : tRet (tLst (tCons (tC (.int z)) tNil)) D σ H1 := s_retL (el_lst (ea_cons ev_c ea_nil) (by show 1 ≤ 100000; decide)) (fun _ _ hp e h => k.go e1 hp e h)
theorem finish {te : TE} {xs : List V} (h : EvL te σ H1 xs) (k : RetL xs H D.rt) (e1 : Ex H H1) : tRet te D σ H1 := s_retL h (fun _ _ hp e h => k.go e1 hp e h)
theorem ev_has (R : BookAt C H p b) {i j : Nat} (h0 : σ[0]? = some (some (.ref p))) (hj : σ[j]? = some (some (nV i))) : Ev (tMeth C "has" (spP C f_has) [] E (tVar 0) (tCons (tVar j) tNil)) σ H (.bl (decide (i < b.n))) :=
  ev_pm R [i] ⟨i, rfl, rfl⟩ (ev_var h0) (ea_cons (ev_var hj) ea_nil)
theorem et_nohas (R : BookAt C H p b) {i j : Nat} (h0 : σ[0]? = some (some (.ref p))) (hj : σ[j]? = some (some (nV i))) : EvT (tNot (tB (tMeth C "has" (spP C f_has) [] E (tVar 0) (tCons (tVar j) tNil)))) σ H (!decide (i < b.n)) :=
  et_not (et_B (ev_has R h0 hj))
theorem not_lt {i n : Nat} (h : (!decide (i < n)) = true) : ¬ i < n := by
  intro z
  rw [decide_eq_true z] at h
  cases h
theorem is_lt {i n : Nat} (h : (!decide (i < n)) = false) : i < n := by
  by_cases z : i < n
  · exact z
  · rw [decide_eq_false z] at h
    cases h
end
end Fs
namespace Fs
open PySem PySem.Spec PyProof.Rows L2 Evl
open Km495 (Book Desk Man)

theorem bl_lt0 {i n : Nat} (h : decide ((i : Int) < (n : Int)) = true) : i < n := by
  have := of_decide_eq_true h
  omega
theorem act_no1 {d : Desk} {x : Km495.Call} {A : Km495.Ans} {i : Nat} (e : (Km495.act d x).2 = if d.now.no i = true then Km495.only (-2) else A) (h : ¬ i < d.now.n) : (Km495Neutral.told (Km495.act d x).2).map V.int = [.int (-2)] := by
  rw [e, if_pos (no_true h)]
  rfl
theorem act_yes1 {d : Desk} {x : Km495.Call} {A : Km495.Ans} {i : Nat} (e : (Km495.act d x).2 = if d.now.no i = true then Km495.only (-2) else A) (h : i < d.now.n) : (Km495Neutral.told (Km495.act d x).2).map V.int = V.int A.value :: A.out.map nV := by
  rw [e, if_neg (no_false h)]
  exact told_map A.value A.out
theorem is0 {i : Nat} (h : decide (nV i = V.int 0) = true) : i = 0 := Int.ofNat.inj (V.int.inj (of_decide_eq_true h))
theorem not0 {i : Nat} (h : decide (nV i = V.int 0) = false) : i ≠ 0 := fun z => by
  subst z
  exact absurd h (by decide)
theorem grade_told {b : Book} {i y : Nat} : (Km495Neutral.told (match b.grade i y with
      | none => Km495.only (-33)
      | some g => Km495.only (Km495.n2i g))).map V.int = gradeL b i y := by
  unfold gradeL
  cases b.grade i y with
  | none => rfl
  | some g => rfl
theorem ranged {b : Book} (g : Good b) (f : Nat → Bool) : ((List.range b.n).filter f).length ≤ 1000 ∧ ∀ m ∈ (List.range b.n).filter f, m ≤ 1000 := by
  have h := List.length_filter_le f (List.range b.n)
  have := g.n24
  rw [List.length_range] at h
  refine ⟨by omega, fun m hm => ?_⟩
  have := List.mem_range.mp (List.mem_filter.mp hm).1
  omega
theorem u_q3 {C CC : Addr} {H : Hp} {Q : VK} {E : XK} {vs : List V} {c : Nat} (x : Nat → Nat → Nat → Km495.Call) (h : spU C CC c vs H Q E) (ha : arity c = 3 := by rfl) (hc : ∀ i j k, Km495Neutral.callOf (callL c [i, j, k]) = some (x i j k) := by intro _ _ _; rfl) (hs : ∀ i j k, Km495Neutral.isStart (x i j k) = false := by intro _ _ _; rfl) (hd : ∀ d i j k, (Km495.act d (x i j k)).1 = d := by intro _ _ _ _; rfl) :
    ∃ (H0 : Hp) (p : Addr) (d : Desk) (i j m : Nat), vs = [.ref p, nV i, nV j, nV m] ∧ DeskAt C CC H0 H p d ∧ GoodD d ∧ RetL ((Km495Neutral.told (Km495.act d (x i j m)).2).map V.int) H Q := by
  obtain ⟨H0, p, d, xs, e, hl, D, g, k⟩ := u_query h (f := fun xs => x (xs.getD 0 0) (xs.getD 1 0) (xs.getD 2 0)) (fun xs hl => by
    rw [ha] at hl
    match xs, hl with
    | [i, j, m], _ => exact hc i j m) (fun _ => hs _ _ _) (fun d _ => hd d _ _ _)
  rw [ha] at hl
  match xs, hl with
  | [i, j, m], _ => exact ⟨H0, p, d, i, j, m, e, D, g, k⟩
section
variable {P : Program} {w : World} {K : PySem.W.Frag} {mg : Str → Option Value} {base : Heap} {C CC : Addr} {fs : List Addr}
abbrev N_fr_enters : List Str := ["people", "i"]
theorem sc_fr_enters : FnScope N_fr_enters ["people", "i"] (defScope s_fr_enters) := ⟨rfl, rfl, rfl, by decide +kernel, rfl, by decide +kernel, by decide +kernel⟩
theorem ok_fr_enters {f : Addr} {fd : FuncData} (F : Fun K "fr_enters" "fr_enters" s_fr_enters f fd) (T : Txt K mg C CC fs) (m_p_has : C8.Met P w K mg base 1 C "has" (spP C f_has) []) (m_p_sets_behind_first : C8.Met P w K mg base 3 C "sets_behind_first" (spP C f_set) []) (m_p_year_in : C8.Met P w K mg base 4 C "year_in" (spP C f_year) []) : FnOk P w K mg base CX0 5 f fd ["people", "i"] (spU C CC 4) := by
  refine F.ok sc_fr_enters (fun vs H Q E h => ?_) (fun cdv A outer s H vs Q E hr h => ?_)
  · exact u_len h rfl
  · obtain ⟨H0, p, d, i, rfl, D, gd, k⟩ := u_q1 Km495.Call.enters h
    have g := gd.now
    have R := D.book
    refine ⟨_, (pss_cons (ps_if (pt_not (pt_val (C8.pe_mt m_p_has hr (by decide) (pv 0) (pa_cons (pv 1) pa_nil)))) (pss_one (ps_ret (pe_lst (pa_cons (C8.pe_gc rfl T.i_NOT_THERE) pa_nil)))) pss_nil)
      (pss_one (ps_ret (pe_lst (pa_cons (C8.pe_mt m_p_year_in hr (by decide) (pv 0) (pa_cons (pv 1) pa_nil)) (pa_cons (C8.pe_mt m_p_sets_behind_first hr (by decide) (pv 0) (pa_cons (pv 1) pa_nil)) pa_nil)))))), ?_⟩
    refine q_when (et_nohas R rfl rfl) (fun hb H1 e1 => refuse (ret_of k (act_no1 rfl (not_lt hb))) e1) (fun hb H1 e1 => ?_)
    have hi := is_lt hb
    exact finish (el_lst (ea_cons (ev_pm (R.ex e1) [i] ⟨i, rfl, g, hi, rfl⟩ (ev_var rfl) (ea_cons (ev_var rfl) ea_nil)) (ea_cons (ev_pm (R.ex e1) [i] ⟨i, rfl, g, hi, rfl⟩ (ev_var rfl) (ea_cons (ev_var rfl) ea_nil)) ea_nil)) (by show 2 ≤ 100000; decide)) (ret_of k ((act_yes1 rfl hi).trans rfl)) e1
abbrev N_fr_age : List Str := ["people", "i"]
theorem sc_fr_age : FnScope N_fr_age ["people", "i"] (defScope s_fr_age) := ⟨rfl, rfl, rfl, by decide +kernel, rfl, by decide +kernel, by decide +kernel⟩
theorem ok_fr_age {f : Addr} {fd : FuncData} (F : Fun K "fr_age" "fr_age" s_fr_age f fd) (T : Txt K mg C CC fs) (m_p_has : C8.Met P w K mg base 1 C "has" (spP C f_has) []) (c_signed : C8.Cal P w K mg base 2 "signed" spSigned []) (m_p_age_in : C8.Met P w K mg base 5 C "age_in" (spP C f_age) []) : FnOk P w K mg base CX0 6 f fd ["people", "i"] (spU C CC 5) := by
  refine F.ok sc_fr_age (fun vs H Q E h => ?_) (fun cdv A outer s H vs Q E hr h => ?_)
  · exact u_len h rfl
  · obtain ⟨H0, p, d, i, rfl, D, gd, k⟩ := u_q1 Km495.Call.age h
    have g := gd.now
    have R := D.book
    refine ⟨_, (pss_cons (ps_if (pt_not (pt_val (C8.pe_mt m_p_has hr (by decide) (pv 0) (pa_cons (pv 1) pa_nil)))) (pss_one (ps_ret (pe_lst (pa_cons (C8.pe_gc rfl T.i_NOT_THERE) pa_nil)))) pss_nil)
      (pss_one (ps_ret (pe_op op_cat (pe_lst (pa_cons pe_int pa_nil)) (C8.pe_c c_signed hr (by decide) (by rfl) (pa_cons (C8.pe_mt m_p_age_in hr (by decide) (pv 0) (pa_cons (pv 1) pa_nil)) pa_nil)))))), ?_⟩
    refine q_when (et_nohas R rfl rfl) (fun hb H1 e1 => refuse (ret_of k (act_no1 rfl (not_lt hb))) e1) (fun hb H1 e1 => ?_)
    have hi := is_lt hb
    exact finish (el_cat (el_lst (ea_cons ev_c ea_nil) (by show 1 ≤ 100000; decide)) (el_call0 (ea_cons (ev_pm (R.ex e1) [i] ⟨i, rfl, g, hi, rfl⟩ (ev_var rfl) (ea_cons (ev_var rfl) ea_nil)) ea_nil) spSigned_l) (by show 3 ≤ 100000; decide)) (ret_of k ((act_yes1 rfl hi).trans rfl)) e1
abbrev N_fr_grade : List Str := ["people", "i", "y"]
theorem sc_fr_grade : FnScope N_fr_grade ["people", "i", "y"] (defScope s_fr_grade) := ⟨rfl, rfl, rfl, by decide +kernel, rfl, by decide +kernel, by decide +kernel⟩
theorem ok_fr_grade {f : Addr} {fd : FuncData} (F : Fun K "fr_grade" "fr_grade" s_fr_grade f fd) (T : Txt K mg C CC fs) (m_p_has : C8.Met P w K mg base 1 C "has" (spP C f_has) []) (c_grade_or_refusal : C8.Cal P w K mg base 6 "grade_or_refusal" (spL C f_gor) []) : FnOk P w K mg base CX0 7 f fd ["people", "i", "y"] (spU C CC 6) := by
  refine F.ok sc_fr_grade (fun vs H Q E h => ?_) (fun cdv A outer s H vs Q E hr h => ?_)
  · exact u_len h rfl
  · obtain ⟨H0, p, d, i, j, rfl, D, gd, k⟩ := u_q2 Km495.Call.grade h
    have g := gd.now
    have R := D.book
    refine ⟨_, (pss_cons (ps_if (pt_not (pt_val (C8.pe_mt m_p_has hr (by decide) (pv 0) (pa_cons (pv 1) pa_nil)))) (pss_one (ps_ret (pe_lst (pa_cons (C8.pe_gc rfl T.i_NOT_THERE) pa_nil)))) pss_nil)
      (pss_cons (ps_if (pt_cmpR op_gt (pv 2) (C8.pe_gc rfl T.i_LATEST_YEAR_ASKED) (nomark _)) (pss_one (ps_ret (pe_lst (pa_cons (C8.pe_gc rfl T.i_OUT_OF_BOUNDS) pa_nil)))) pss_nil)
      (pss_one (ps_ret (C8.pe_c c_grade_or_refusal hr (by decide) (by rfl) (pa_cons (pv 0) (pa_cons (pv 1) (pa_cons (pv 2) pa_nil)))))))), ?_⟩
    refine q_when (et_nohas R rfl rfl) (fun hb H1 e1 => refuse (ret_of k (act_no1 rfl (not_lt hb))) e1) (fun hb H1 e1 => ?_)
    have hi := is_lt hb
    refine q_when (et_test (ev_op (ev_var rfl) ev_c rv_I0)) (fun hb2 H2 e2 => ?_) (fun hb2 H2 e2 => ?_)
    · have c : 10 * Km495.LAST < j := by
        have := of_decide_eq_true hb2
        show 20000 < j
        omega
      refine refuse (ret_of k ?_) (e1.trans e2)
      show (Km495Neutral.told (if d.now.no i = true then _ else if 10 * Km495.LAST < j then _ else _)).map V.int = _
      rw [if_neg (no_false hi), if_pos c]
      rfl
    · have c : ¬ 10 * Km495.LAST < j := by
        have := of_decide_eq_false hb2
        show ¬ 20000 < j
        omega
      refine finish (el_call0 (ea_cons (ev_var rfl) (ea_cons (ev_var rfl) (ea_cons (ev_var rfl) ea_nil))) (spL_l [i, j] ((R.ex e1).ex e2) ⟨i, j, rfl, g, hi, rfl⟩)) (ret_of k ?_) (e1.trans e2)
      show (Km495Neutral.told (if d.now.no i = true then _ else if 10 * Km495.LAST < j then _ else _)).map V.int = _
      rw [if_neg (no_false hi), if_neg c]
      exact grade_told
abbrev N_fr_born_into : List Str := ["people", "i"]
theorem sc_fr_born_into : FnScope N_fr_born_into ["people", "i"] (defScope s_fr_born_into) := ⟨rfl, rfl, rfl, by decide +kernel, rfl, by decide +kernel, by decide +kernel⟩
theorem ok_fr_born_into {f : Addr} {fd : FuncData} (F : Fun K "fr_born_into" "fr_born_into" s_fr_born_into f fd) (T : Txt K mg C CC fs) (m_p_has : C8.Met P w K mg base 1 C "has" (spP C f_has) []) (c_grade_or_refusal : C8.Cal P w K mg base 6 "grade_or_refusal" (spL C f_gor) []) : FnOk P w K mg base CX0 7 f fd ["people", "i"] (spU C CC 7) := by
  refine F.ok sc_fr_born_into (fun vs H Q E h => ?_) (fun cdv A outer s H vs Q E hr h => ?_)
  · exact u_len h rfl
  · obtain ⟨H0, p, d, i, rfl, D, gd, k⟩ := u_q1 Km495.Call.bornInto h
    have g := gd.now
    have R := D.book
    refine ⟨_, (pss_cons (ps_if (pt_not (pt_val (C8.pe_mt m_p_has hr (by decide) (pv 0) (pa_cons (pv 1) pa_nil)))) (pss_one (ps_ret (pe_lst (pa_cons (C8.pe_gc rfl T.i_NOT_THERE) pa_nil)))) pss_nil)
      (pss_one (ps_ret (C8.pe_c c_grade_or_refusal hr (by decide) (by rfl) (pa_cons (pv 0) (pa_cons (pv 1) (pa_cons (pe_ix ix_list (pe_fld (pv 0) rfl) (pv 1) (fun _ _ => rfl)) pa_nil))))))), ?_⟩
    refine q_when (et_nohas R rfl rfl) (fun hb H1 e1 => refuse (ret_of k (act_no1 rfl (not_lt hb))) e1) (fun hb H1 e1 => ?_)
    have hi := is_lt hb
    refine finish (el_call0 (ea_cons (ev_var rfl) (ea_cons (ev_var rfl) (ea_cons (ev_born T (R.ex e1) hi (ev_var rfl) (ev_var rfl)) ea_nil))) (spL_l [i, (d.now.at_ i).born] (R.ex e1) ⟨i, _, rfl, g, hi, rfl⟩)) (ret_of k ?_) e1
    show (Km495Neutral.told (if d.now.no i = true then _ else _)).map V.int = _
    rw [if_neg (no_false hi)]
    exact grade_told
abbrev N_fr_fathers : List Str := ["people", "i"]
theorem sc_fr_fathers : FnScope N_fr_fathers ["people", "i"] (defScope s_fr_fathers) := ⟨rfl, rfl, rfl, by decide +kernel, rfl, by decide +kernel, by decide +kernel⟩
theorem ok_fr_fathers {f : Addr} {fd : FuncData} (F : Fun K "fr_fathers" "fr_fathers" s_fr_fathers f fd) (T : Txt K mg C CC fs) (m_p_has : C8.Met P w K mg base 1 C "has" (spP C f_has) []) : FnOk P w K mg base CX0 2 f fd ["people", "i"] (spU C CC 8) := by
  refine F.ok sc_fr_fathers (fun vs H Q E h => ?_) (fun cdv A outer s H vs Q E hr h => ?_)
  · exact u_len h rfl
  · obtain ⟨H0, p, d, i, rfl, D, gd, k⟩ := u_q1 Km495.Call.fathers h
    have g := gd.now
    have R := D.book
    refine ⟨_, (pss_cons (ps_if (pt_not (pt_val (C8.pe_mt m_p_has hr (by decide) (pv 0) (pa_cons (pv 1) pa_nil)))) (pss_one (ps_ret (pe_lst (pa_cons (C8.pe_gc rfl T.i_NOT_THERE) pa_nil)))) pss_nil)
      (pss_cons (ps_if (pt_cmpR op_eq (pv 1) pe_int (nomark _)) (pss_one (ps_ret (pe_lst (pa_cons (C8.pe_gc rfl T.i_HAS_NONE) pa_nil)))) pss_nil)
      (pss_one (ps_ret (pe_lst (pa_cons (pe_op op_sub (pe_ix ix_list (pe_fld (pv 0) rfl) (pv 1) (fun _ _ => rfl)) (pe_ix ix_list (pe_fld (pv 0) rfl) (pe_ix ix_list (pe_fld (pv 0) rfl) (pv 1) (fun _ _ => rfl)) (fun _ _ => rfl))) pa_nil)))))), ?_⟩
    refine q_when (et_nohas R rfl rfl) (fun hb H1 e1 => refuse (ret_of k (act_no1 rfl (not_lt hb))) e1) (fun hb H1 e1 => ?_)
    have hi := is_lt hb
    refine q_when (et_test (ev_op (ev_var rfl) ev_c (rv_eq rfl))) (fun hb2 H2 e2 => ?_) (fun hb2 H2 e2 => ?_)
    · refine refuse (ret_of k ?_) (e1.trans e2)
      show (Km495Neutral.told (if d.now.no i = true then _ else if i = 0 then _ else _)).map V.int = _
      rw [if_neg (no_false hi), if_pos (is0 hb2)]
      rfl
    · have h0 := not0 hb2
      have dd := g.dad i (by omega) hi
      have od := g.older i (by omega) hi
      have R2 := (R.ex e1).ex e2
      refine finish (el_lst (ea_cons (ev_op (ev_born T R2 hi (ev_var rfl) (ev_var rfl)) (ev_born T R2 (show (d.now.at_ i).father < d.now.n by omega) (ev_var rfl) (ev_dad T R2 hi (ev_var rfl) (ev_var rfl))) rv_I0) ea_nil) (by show 1 ≤ 100000; decide)) (ret_of k ?_) (e1.trans e2)
      show (Km495Neutral.told (if d.now.no i = true then _ else if i = 0 then _ else _)).map V.int = _
      rw [if_neg (no_false hi), if_neg h0]
      show [V.int (((d.now.at_ i).born - (d.now.at_ (d.now.at_ i).father).born : Nat) : Int)] = [V.int (((d.now.at_ i).born : Int) - ((d.now.at_ (d.now.at_ i).father).born : Int))]
      congr 2
      omega
abbrev N_fr_drift : List Str := ["people", "i"]
theorem sc_fr_drift : FnScope N_fr_drift ["people", "i"] (defScope s_fr_drift) := ⟨rfl, rfl, rfl, by decide +kernel, rfl, by decide +kernel, by decide +kernel⟩
theorem ok_fr_drift {f : Addr} {fd : FuncData} (F : Fun K "fr_drift" "fr_drift" s_fr_drift f fd) (T : Txt K mg C CC fs) (m_p_has : C8.Met P w K mg base 1 C "has" (spP C f_has) []) (m_p_fathers_above : C8.Met P w K mg base 2 C "fathers_above" (spP C f_above) []) (c_signed : C8.Cal P w K mg base 2 "signed" spSigned []) (m_p_age_in : C8.Met P w K mg base 5 C "age_in" (spP C f_age) []) : FnOk P w K mg base CX0 6 f fd ["people", "i"] (spU C CC 9) := by
  refine F.ok sc_fr_drift (fun vs H Q E h => ?_) (fun cdv A outer s H vs Q E hr h => ?_)
  · exact u_len h rfl
  · obtain ⟨H0, p, d, i, rfl, D, gd, k⟩ := u_q1 Km495.Call.drift h
    have g := gd.now
    have R := D.book
    refine ⟨_, (pss_cons (ps_if (pt_not (pt_val (C8.pe_mt m_p_has hr (by decide) (pv 0) (pa_cons (pv 1) pa_nil)))) (pss_one (ps_ret (pe_lst (pa_cons (C8.pe_gc rfl T.i_NOT_THERE) pa_nil)))) pss_nil)
      (pss_one (ps_ret (pe_op op_cat (pe_lst (pa_cons (C8.pe_mt m_p_fathers_above hr (by decide) (pv 0) (pa_cons (pv 1) pa_nil)) pa_nil)) (C8.pe_c c_signed hr (by decide) (by rfl) (pa_cons (pe_op op_sub (C8.pe_mt m_p_age_in hr (by decide) (pv 0) (pa_cons (pv 1) pa_nil)) (C8.pe_mt m_p_age_in hr (by decide) (pv 0) (pa_cons pe_int pa_nil))) pa_nil)))))), ?_⟩
    refine q_when (et_nohas R rfl rfl) (fun hb H1 e1 => refuse (ret_of k (act_no1 rfl (not_lt hb))) e1) (fun hb H1 e1 => ?_)
    have hi := is_lt hb
    exact finish (el_cat (el_lst (ea_cons (ev_pm (R.ex e1) [i] ⟨i, rfl, g, hi, rfl⟩ (ev_var rfl) (ea_cons (ev_var rfl) ea_nil)) ea_nil) (by show 1 ≤ 100000; decide)) (el_call0 (ea_cons (ev_op (ev_pm (R.ex e1) [i] ⟨i, rfl, g, hi, rfl⟩ (ev_var rfl) (ea_cons (ev_var rfl) ea_nil)) (ev_pm (R.ex e1) [0] ⟨0, rfl, g, by have := g.n1; omega, rfl⟩ (ev_var rfl) (ea_cons ev_c ea_nil)) rv_I0) ea_nil) spSigned_l) (by show 3 ≤ 100000; decide)) (ret_of k ((act_yes1 rfl hi).trans rfl)) e1
abbrev N_fr_line : List Str := ["people", "i"]
theorem sc_fr_line : FnScope N_fr_line ["people", "i"] (defScope s_fr_line) := ⟨rfl, rfl, rfl, by decide +kernel, rfl, by decide +kernel, by decide +kernel⟩
theorem ok_fr_line {f : Addr} {fd : FuncData} (F : Fun K "fr_line" "fr_line" s_fr_line f fd) (T : Txt K mg C CC fs) (m_p_has : C8.Met P w K mg base 1 C "has" (spP C f_has) []) (c_as_set : C8.Cal P w K mg base 1 "as_set" (spSet K) []) (m_p_line_of : C8.Met P w K mg base 1 C "line_of" (spL C f_line) []) : FnOk P w K mg base CX0 2 f fd ["people", "i"] (spU C CC 10) := by
  refine F.ok sc_fr_line (fun vs H Q E h => ?_) (fun cdv A outer s H vs Q E hr h => ?_)
  · exact u_len h rfl
  · obtain ⟨H0, p, d, i, rfl, D, gd, k⟩ := u_q1 Km495.Call.line h
    have g := gd.now
    have R := D.book
    refine ⟨_, (pss_cons (ps_if (pt_not (pt_val (C8.pe_mt m_p_has hr (by decide) (pv 0) (pa_cons (pv 1) pa_nil)))) (pss_one (ps_ret (pe_lst (pa_cons (C8.pe_gc rfl T.i_NOT_THERE) pa_nil)))) pss_nil)
      (pss_one (ps_ret (C8.pe_c c_as_set hr (by decide) (by rfl) (pa_cons (C8.pe_mt m_p_line_of hr (by decide) (pv 0) (pa_cons (pv 1) pa_nil)) pa_nil))))), ?_⟩
    refine q_when (et_nohas R rfl rfl) (fun hb H1 e1 => refuse (ret_of k (act_no1 rfl (not_lt hb))) e1) (fun hb H1 e1 => ?_)
    have hi := is_lt hb
    have hn := g.n24
    exact finish (el_call1L (el_pm (R.ex e1) [i] ⟨i, rfl, g, hi, rfl⟩ (ev_var rfl) (ea_cons (ev_var rfl) ea_nil)) (fun q H2 e2 h2 => spSet_l (sq_of h2) (by have := line_len g i hi; omega) (fun m hm => by have := line_lt g i hi m hm; omega))) (ret_of k ((act_yes1 rfl hi).trans rfl)) e1
abbrev N_fr_sons : List Str := ["people", "p"]
theorem sc_fr_sons : FnScope N_fr_sons ["people", "p"] (defScope s_fr_sons) := ⟨rfl, rfl, rfl, by decide +kernel, rfl, by decide +kernel, by decide +kernel⟩
theorem ok_fr_sons {f : Addr} {fd : FuncData} (F : Fun K "fr_sons" "fr_sons" s_fr_sons f fd) (T : Txt K mg C CC fs) (m_p_has : C8.Met P w K mg base 1 C "has" (spP C f_has) []) (c_as_set : C8.Cal P w K mg base 1 "as_set" (spSet K) []) (m_p_sons_of : C8.Met P w K mg base 2 C "sons_of" (spL C f_sons) []) : FnOk P w K mg base CX0 3 f fd ["people", "p"] (spU C CC 14) := by
  refine F.ok sc_fr_sons (fun vs H Q E h => ?_) (fun cdv A outer s H vs Q E hr h => ?_)
  · exact u_len h rfl
  · obtain ⟨H0, p, d, i, rfl, D, gd, k⟩ := u_q1 Km495.Call.sons h
    have g := gd.now
    have R := D.book
    refine ⟨_, (pss_cons (ps_if (pt_not (pt_val (C8.pe_mt m_p_has hr (by decide) (pv 0) (pa_cons (pv 1) pa_nil)))) (pss_one (ps_ret (pe_lst (pa_cons (C8.pe_gc rfl T.i_NOT_THERE) pa_nil)))) pss_nil)
      (pss_one (ps_ret (C8.pe_c c_as_set hr (by decide) (by rfl) (pa_cons (C8.pe_mt m_p_sons_of hr (by decide) (pv 0) (pa_cons (pv 1) pa_nil)) pa_nil))))), ?_⟩
    refine q_when (et_nohas R rfl rfl) (fun hb H1 e1 => refuse (ret_of k (act_no1 rfl (not_lt hb))) e1) (fun hb H1 e1 => ?_)
    have hi := is_lt hb
    exact finish (el_call1L (el_pm (R.ex e1) [i] ⟨i, rfl, g, hi, rfl⟩ (ev_var rfl) (ea_cons (ev_var rfl) ea_nil)) (fun q H2 e2 h2 => spSet_l (sq_of h2) (ranged g _).1 (ranged g _).2)) (ret_of k ((act_yes1 rfl hi).trans rfl)) e1
abbrev N_fr_mean : List Str := ["people", "i", "fathers", "together"]
theorem sc_fr_mean : FnScope N_fr_mean ["people", "i"] (defScope s_fr_mean) := ⟨rfl, rfl, rfl, by decide +kernel, rfl, by decide +kernel, by decide +kernel⟩
theorem ok_fr_mean {f : Addr} {fd : FuncData} (F : Fun K "fr_mean" "fr_mean" s_fr_mean f fd) (T : Txt K mg C CC fs) (m_p_has : C8.Met P w K mg base 1 C "has" (spP C f_has) []) (m_p_fathers_above : C8.Met P w K mg base 2 C "fathers_above" (spP C f_above) []) : FnOk P w K mg base CX0 3 f fd ["people", "i"] (spU C CC 16) := by
  refine F.ok sc_fr_mean (fun vs H Q E h => ?_) (fun cdv A outer s H vs Q E hr h => ?_)
  · exact u_len h rfl
  · obtain ⟨H0, p, d, i, rfl, D, gd, k⟩ := u_q1 Km495.Call.mean h
    have g := gd.now
    have R := D.book
    refine ⟨_, (pss_cons (ps_if (pt_not (pt_val (C8.pe_mt m_p_has hr (by decide) (pv 0) (pa_cons (pv 1) pa_nil)))) (pss_one (ps_ret (pe_lst (pa_cons (C8.pe_gc rfl T.i_NOT_THERE) pa_nil)))) pss_nil)
      (pss_cons (ps_if (pt_cmpR op_eq (pv 1) pe_int (nomark _)) (pss_one (ps_ret (pe_lst (pa_cons (C8.pe_gc rfl T.i_HAS_NONE) pa_nil)))) pss_nil)
      (pss_cons (ps_set (i := 2) sc_fr_mean.nd rfl (Or.inl rfl) (C8.pe_mt m_p_fathers_above hr (by decide) (pv 0) (pa_cons (pv 1) pa_nil)))
      (pss_cons (ps_set (i := 3) sc_fr_mean.nd rfl (Or.inl rfl) (pe_ix ix_list (pe_fld (pv 0) rfl) (pv 1) (fun _ _ => rfl)))
      (pss_one (ps_ret (pe_lst (pa_cons (pe_op op_fdivN (pv 3) (pv 2)) (pa_cons (pe_op op_modN (pv 3) (pv 2)) (pa_cons (pv 2) pa_nil)))))))))), ?_⟩
    refine q_when (et_nohas R rfl rfl) (fun hb H1 e1 => refuse (ret_of k (act_no1 rfl (not_lt hb))) e1) (fun hb H1 e1 => ?_)
    have hi := is_lt hb
    refine q_when (et_test (ev_op (ev_var rfl) ev_c (rv_eq rfl))) (fun hb2 H2 e2 => ?_) (fun hb2 H2 e2 => ?_)
    · refine refuse (ret_of k ?_) (e1.trans e2)
      show (Km495Neutral.told (if d.now.no i = true then _ else if i = 0 then _ else _)).map V.int = _
      rw [if_neg (no_false hi), if_pos (is0 hb2)]
      rfl
    · have h0 := not0 hb2
      have R2 := (R.ex e1).ex e2
      have dp := depth_pos g h0 hi
      have dl := depth_le g hi
      have n24 := g.n24
      have q1 : ((d.now.at_ i).born : Int).fdiv (d.now.depth i : Int) = (((d.now.at_ i).born / d.now.depth i : Nat) : Int) := by
        rw [Int.fdiv_eq_ediv_of_nonneg _ (by omega)]
        rfl
      have q2 : ((d.now.at_ i).born : Int).fmod (d.now.depth i : Int) = (((d.now.at_ i).born % d.now.depth i : Nat) : Int) := by
        rw [Int.fmod_eq_emod_of_nonneg _ (show (0 : Int) ≤ (d.now.depth i : Int) by omega)]
        rfl
      refine q_asg (ev_pm R2 [i] ⟨i, rfl, g, hi, rfl⟩ (ev_var rfl) (ea_cons (ev_var rfl) ea_nil)) (fun H3 e3 => ?_)
      refine q_asg (ev_born T (R2.ex e3) hi (ev_var rfl) (ev_var rfl)) (fun H4 e4 => ?_)
      refine finish (el_lst (ea_cons (ev_is (ev_op (ev_var rfl) (ev_var rfl) (rv_I ⟨by omega, by omega⟩)) (congrArg V.int q1)) (ea_cons (ev_is (ev_op (ev_var rfl) (ev_var rfl) (rv_I (show (d.now.depth i : Int) ≠ 0 by omega))) (congrArg V.int q2)) (ea_cons (ev_var rfl) ea_nil))) (by show 3 ≤ 100000; decide)) (ret_of k ?_) (((e1.trans e2).trans e3).trans e4)
      show (Km495Neutral.told (if d.now.no i = true then _ else if i = 0 then _ else _)).map V.int = _
      rw [if_neg (no_false hi), if_neg h0]
      exact told_map _ _
abbrev N_fr_told : List Str := ["people", "i"]
theorem sc_fr_told : FnScope N_fr_told ["people", "i"] (defScope s_fr_told) := ⟨rfl, rfl, rfl, by decide +kernel, rfl, by decide +kernel, by decide +kernel⟩
theorem ok_fr_told {f : Addr} {fd : FuncData} (F : Fun K "fr_told" "fr_told" s_fr_told f fd) (T : Txt K mg C CC fs) (m_p_has : C8.Met P w K mg base 1 C "has" (spP C f_has) []) (m_p_fathers_above : C8.Met P w K mg base 2 C "fathers_above" (spP C f_above) []) : FnOk P w K mg base CX0 3 f fd ["people", "i"] (spU C CC 20) := by
  refine F.ok sc_fr_told (fun vs H Q E h => ?_) (fun cdv A outer s H vs Q E hr h => ?_)
  · exact u_len h rfl
  · obtain ⟨H0, p, d, i, rfl, D, gd, k⟩ := u_q1 Km495.Call.told h
    have g := gd.now
    have R := D.book
    refine ⟨_, (pss_cons (ps_if (pt_not (pt_val (C8.pe_mt m_p_has hr (by decide) (pv 0) (pa_cons (pv 1) pa_nil)))) (pss_one (ps_ret (pe_lst (pa_cons (C8.pe_gc rfl T.i_NOT_THERE) pa_nil)))) pss_nil)
      (pss_one (ps_ret (pe_lst (pa_cons (pe_ix ix_list (pe_fld (pv 0) rfl) (pv 1) (fun _ _ => rfl)) (pa_cons (pe_ix ix_list (pe_fld (pv 0) rfl) (pv 1) (fun _ _ => rfl)) (pa_cons (C8.pe_mt m_p_fathers_above hr (by decide) (pv 0) (pa_cons (pv 1) pa_nil)) pa_nil))))))), ?_⟩
    refine q_when (et_nohas R rfl rfl) (fun hb H1 e1 => refuse (ret_of k (act_no1 rfl (not_lt hb))) e1) (fun hb H1 e1 => ?_)
    have hi := is_lt hb
    exact finish (el_lst (ea_cons (ev_born T (R.ex e1) hi (ev_var rfl) (ev_var rfl)) (ea_cons (ev_dad T (R.ex e1) hi (ev_var rfl) (ev_var rfl)) (ea_cons (ev_pm (R.ex e1) [i] ⟨i, rfl, g, hi, rfl⟩ (ev_var rfl) (ea_cons (ev_var rfl) ea_nil)) ea_nil))) (by show 3 ≤ 100000; decide)) (ret_of k ((act_yes1 rfl hi).trans rfl)) e1
abbrev N_fr_in_step : List Str := ["people", "l", "h", "man"]
theorem sc_fr_in_step : FnScope N_fr_in_step ["people", "l", "h"] (defScope s_fr_in_step) := ⟨rfl, rfl, rfl, by decide +kernel, rfl, by decide +kernel, by decide +kernel⟩
theorem ok_fr_in_step {f : Addr} {fd : FuncData} (F : Fun K "fr_in_step" "fr_in_step" s_fr_in_step f fd) (T : Txt K mg C CC fs) (c_as_set : C8.Cal P w K mg base 1 "as_set" (spSet K) []) (m_p_how_many : C8.Met P w K mg base 1 C "how_many" (spP C f_how_many) []) (c_between : C8.Cal P w K mg base 1 "between" spBetween []) (m_p_age_in : C8.Met P w K mg base 5 C "age_in" (spP C f_age) []) : FnOk P w K mg base CX0 6 f fd ["people", "l", "h"] (spU C CC 11) := by
  refine F.ok sc_fr_in_step (fun vs H Q E h => ?_) (fun cdv A outer s H vs Q E hr h => ?_)
  · exact u_len h rfl
  · obtain ⟨H0, p, d, i, j, rfl, D, gd, k⟩ := u_q2 Km495.Call.inStep h
    have g := gd.now
    have R := D.book
    refine ⟨_, (pss_cons (ps_if (PW.pt (pw_or (pt_cmpR op_lt (pv 2) (pv 1) (nomark _)) (pw_or1 (pt_cmpR op_gt (pv 2) (C8.pe_gc rfl T.i_HIGHEST_AGE_ASKED) (nomark _))))) (pss_one (ps_ret (pe_lst (pa_cons (C8.pe_gc rfl T.i_OUT_OF_BOUNDS) pa_nil)))) pss_nil)
      (pss_one (ps_ret (C8.pe_c c_as_set hr (by decide) (by rfl) (pa_cons (pe_lc (own := [("man", 3)]) (g := gName 3) (tt := (tB (tCall spBetween [] C8.E0 (tCons (tVar 1) (tCons (tVar 2) (tCons (tMeth C "age_in" (spP C f_age) [] C8.E0 (tVar 0) (tCons (tVar 3) tNil)) tNil)))))) (te := (tVar 3)) rfl sc_fr_in_step.nd (pi_range1 rfl T.z_range (pa_cons (C8.pe_mt0 m_p_how_many hr (by decide) (pv 0)) pa_nil)) (blkOk_by (own := [("man", 3)]) (N := N_fr_in_step) (sc := defScope s_fr_in_step) (by decide +kernel)) (fun _ _ _ _ _ => pg_name (i := 3) sc_fr_in_step.nd rfl (Or.inl rfl)) (fun _ _ _ _ _ => by exact (pts_one (pt_val (C8.pe_c c_between hr (by decide) (by rfl) (pa_cons (pv 1) (pa_cons (pv 2) (pa_cons (C8.pe_mt m_p_age_in hr (by decide) (pv 0) (pa_cons (pv 3) pa_nil)) pa_nil))))))) (fun _ _ _ _ _ => by exact (pv 3))) pa_nil))))), ?_⟩
    refine q_when (et_or (et_test (ev_op (ev_var rfl) (ev_var rfl) rv_I0)) (fun _ => et_test (ev_op (ev_var rfl) ev_c rv_I0))) (fun hb H1 e1 => ?_) (fun hb H1 e1 => ?_)
    · have c : j < i ∨ Km495.LAST < j := by
        rw [Bool.or_eq_true, decide_eq_true_eq, decide_eq_true_eq] at hb
        show j < i ∨ 2000 < j
        omega
      refine refuse (ret_of k ?_) e1
      show (Km495Neutral.told (if j < i ∨ Km495.LAST < j then _ else _)).map V.int = _
      rw [if_pos c]
      rfl
    have c : ¬ (j < i ∨ Km495.LAST < j) := by
      rw [Bool.or_eq_false_iff, decide_eq_false_iff_not, decide_eq_false_iff_not] at hb
      show ¬ (j < i ∨ 2000 < j)
      omega
    refine finish (el_call1L (el_lcR1 (n := (d.now.n : Int)) (fun m => d.now.inStep i j m) nV (ea_cons (ev_pm (R.ex e1) [] ⟨rfl, rfl⟩ (ev_var rfl) ea_nil) ea_nil) ⟨by omega, by have := g.n24; omega⟩ (fun _ => rfl) (fun m H2 e2 hm => ?_) (fun m H2 e2 hm _ => ev_var rfl)) (fun q H2 e2 h2 => spSet_l (ms := (List.range d.now.n).filter (fun m => d.now.inStep i j m)) (sq_of h2) (ranged g _).1 (ranged g _).2)) (ret_of k ?_) e1
    · have hm' : m < d.now.n := by omega
      exact et_B (ev_call0 (ea_cons (ev_var rfl) (ea_cons (ev_var rfl) (ea_cons (ev_pm ((R.ex e1).ex e2) [m] ⟨m, rfl, g, hm', rfl⟩ (ev_var rfl) (ea_cons (ev_var rfl) ea_nil)) ea_nil))) spBetween_v)
    · show (Km495Neutral.told (if j < i ∨ Km495.LAST < j then _ else _)).map V.int = _
      rw [if_neg c]
      exact told_map _ _
abbrev N_fr_too_old : List Str := ["people", "h", "man"]
theorem sc_fr_too_old : FnScope N_fr_too_old ["people", "h"] (defScope s_fr_too_old) := ⟨rfl, rfl, rfl, by decide +kernel, rfl, by decide +kernel, by decide +kernel⟩
theorem ok_fr_too_old {f : Addr} {fd : FuncData} (F : Fun K "fr_too_old" "fr_too_old" s_fr_too_old f fd) (T : Txt K mg C CC fs) (c_as_set : C8.Cal P w K mg base 1 "as_set" (spSet K) []) (m_p_how_many : C8.Met P w K mg base 1 C "how_many" (spP C f_how_many) []) (m_p_age_in : C8.Met P w K mg base 5 C "age_in" (spP C f_age) []) : FnOk P w K mg base CX0 6 f fd ["people", "h"] (spU C CC 12) := by
  refine F.ok sc_fr_too_old (fun vs H Q E h => ?_) (fun cdv A outer s H vs Q E hr h => ?_)
  · exact u_len h rfl
  · obtain ⟨H0, p, d, i, rfl, D, gd, k⟩ := u_q1 Km495.Call.tooOld h
    have g := gd.now
    have R := D.book
    refine ⟨_, (pss_cons (ps_if (pt_cmpR op_gt (pv 1) (C8.pe_gc rfl T.i_HIGHEST_AGE_ASKED) (nomark _)) (pss_one (ps_ret (pe_lst (pa_cons (C8.pe_gc rfl T.i_OUT_OF_BOUNDS) pa_nil)))) pss_nil)
      (pss_one (ps_ret (C8.pe_c c_as_set hr (by decide) (by rfl) (pa_cons (pe_lc (own := [("man", 2)]) (g := gName 2) (tt := (tTest (tOp (rI0 fun i j => .bl (decide (j < i))) (tMeth C "age_in" (spP C f_age) [] C8.E0 (tVar 0) (tCons (tVar 2) tNil)) (tVar 1)))) (te := (tVar 2)) rfl sc_fr_too_old.nd (pi_range1 rfl T.z_range (pa_cons (C8.pe_mt0 m_p_how_many hr (by decide) (pv 0)) pa_nil)) (blkOk_by (own := [("man", 2)]) (N := N_fr_too_old) (sc := defScope s_fr_too_old) (by decide +kernel)) (fun _ _ _ _ _ => pg_name (i := 2) sc_fr_too_old.nd rfl (Or.inl rfl)) (fun _ _ _ _ _ => by exact (pts_one (pt_cmpR op_gt (C8.pe_mt m_p_age_in hr (by decide) (pv 0) (pa_cons (pv 2) pa_nil)) (pv 1) (nomark _)))) (fun _ _ _ _ _ => by exact (pv 2))) pa_nil))))), ?_⟩
    refine q_when (et_test (ev_op (ev_var rfl) ev_c rv_I0)) (fun hb H1 e1 => ?_) (fun hb H1 e1 => ?_)
    · have c : Km495.LAST < i := by
        have := of_decide_eq_true hb
        show 2000 < i
        omega
      refine refuse (ret_of k ?_) e1
      show (Km495Neutral.told (if Km495.LAST < i then _ else _)).map V.int = _
      rw [if_pos c]
      rfl
    have c : ¬ Km495.LAST < i := by
      have := of_decide_eq_false hb
      show ¬ 2000 < i
      omega
    refine finish (el_call1L (el_lcR1 (n := (d.now.n : Int)) (fun m => decide ((i : Int) < d.now.age m)) nV (ea_cons (ev_pm (R.ex e1) [] ⟨rfl, rfl⟩ (ev_var rfl) ea_nil) ea_nil) ⟨by omega, by have := g.n24; omega⟩ (fun _ => rfl) (fun m H2 e2 hm => ?_) (fun m H2 e2 hm _ => ev_var rfl)) (fun q H2 e2 h2 => spSet_l (ms := (List.range d.now.n).filter (fun m => decide ((i : Int) < d.now.age m))) (sq_of h2) (ranged g _).1 (ranged g _).2)) (ret_of k ?_) e1
    · have hm' : m < d.now.n := by omega
      exact et_test (ev_op (ev_pm ((R.ex e1).ex e2) [m] ⟨m, rfl, g, hm', rfl⟩ (ev_var rfl) (ea_cons (ev_var rfl) ea_nil)) (ev_var rfl) rv_I0)
    · show (Km495Neutral.told (if Km495.LAST < i then _ else _)).map V.int = _
      rw [if_neg c]
      exact told_map _ _
abbrev N_fr_too_young : List Str := ["people", "l", "man"]
theorem sc_fr_too_young : FnScope N_fr_too_young ["people", "l"] (defScope s_fr_too_young) := ⟨rfl, rfl, rfl, by decide +kernel, rfl, by decide +kernel, by decide +kernel⟩
theorem ok_fr_too_young {f : Addr} {fd : FuncData} (F : Fun K "fr_too_young" "fr_too_young" s_fr_too_young f fd) (T : Txt K mg C CC fs) (c_as_set : C8.Cal P w K mg base 1 "as_set" (spSet K) []) (m_p_how_many : C8.Met P w K mg base 1 C "how_many" (spP C f_how_many) []) (m_p_age_in : C8.Met P w K mg base 5 C "age_in" (spP C f_age) []) : FnOk P w K mg base CX0 6 f fd ["people", "l"] (spU C CC 13) := by
  refine F.ok sc_fr_too_young (fun vs H Q E h => ?_) (fun cdv A outer s H vs Q E hr h => ?_)
  · exact u_len h rfl
  · obtain ⟨H0, p, d, i, rfl, D, gd, k⟩ := u_q1 Km495.Call.tooYoung h
    have g := gd.now
    have R := D.book
    refine ⟨_, (pss_cons (ps_if (pt_cmpR op_gt (pv 1) (C8.pe_gc rfl T.i_HIGHEST_AGE_ASKED) (nomark _)) (pss_one (ps_ret (pe_lst (pa_cons (C8.pe_gc rfl T.i_OUT_OF_BOUNDS) pa_nil)))) pss_nil)
      (pss_one (ps_ret (C8.pe_c c_as_set hr (by decide) (by rfl) (pa_cons (pe_lc (own := [("man", 2)]) (g := gName 2) (tt := (tTest (tOp (rI0 fun i j => .bl (decide (i < j))) (tMeth C "age_in" (spP C f_age) [] C8.E0 (tVar 0) (tCons (tVar 2) tNil)) (tVar 1)))) (te := (tVar 2)) rfl sc_fr_too_young.nd (pi_range1 rfl T.z_range (pa_cons (C8.pe_mt0 m_p_how_many hr (by decide) (pv 0)) pa_nil)) (blkOk_by (own := [("man", 2)]) (N := N_fr_too_young) (sc := defScope s_fr_too_young) (by decide +kernel)) (fun _ _ _ _ _ => pg_name (i := 2) sc_fr_too_young.nd rfl (Or.inl rfl)) (fun _ _ _ _ _ => by exact (pts_one (pt_cmpR op_lt (C8.pe_mt m_p_age_in hr (by decide) (pv 0) (pa_cons (pv 2) pa_nil)) (pv 1) (nomark _)))) (fun _ _ _ _ _ => by exact (pv 2))) pa_nil))))), ?_⟩
    refine q_when (et_test (ev_op (ev_var rfl) ev_c rv_I0)) (fun hb H1 e1 => ?_) (fun hb H1 e1 => ?_)
    · have c : Km495.LAST < i := by
        have := of_decide_eq_true hb
        show 2000 < i
        omega
      refine refuse (ret_of k ?_) e1
      show (Km495Neutral.told (if Km495.LAST < i then _ else _)).map V.int = _
      rw [if_pos c]
      rfl
    have c : ¬ Km495.LAST < i := by
      have := of_decide_eq_false hb
      show ¬ 2000 < i
      omega
    refine finish (el_call1L (el_lcR1 (n := (d.now.n : Int)) (fun m => decide (d.now.age m < (i : Int))) nV (ea_cons (ev_pm (R.ex e1) [] ⟨rfl, rfl⟩ (ev_var rfl) ea_nil) ea_nil) ⟨by omega, by have := g.n24; omega⟩ (fun _ => rfl) (fun m H2 e2 hm => ?_) (fun m H2 e2 hm _ => ev_var rfl)) (fun q H2 e2 h2 => spSet_l (ms := (List.range d.now.n).filter (fun m => decide (d.now.age m < (i : Int)))) (sq_of h2) (ranged g _).1 (ranged g _).2)) (ret_of k ?_) e1
    · have hm' : m < d.now.n := by omega
      exact et_test (ev_op (ev_pm ((R.ex e1).ex e2) [m] ⟨m, rfl, g, hm', rfl⟩ (ev_var rfl) (ea_cons (ev_var rfl) ea_nil)) (ev_var rfl) rv_I0)
    · show (Km495Neutral.told (if Km495.LAST < i then _ else _)).map V.int = _
      rw [if_neg c]
      exact told_map _ _
abbrev N_fr_together : List Str := ["people", "i", "j"]
theorem sc_fr_together : FnScope N_fr_together ["people", "i", "j"] (defScope s_fr_together) := ⟨rfl, rfl, rfl, by decide +kernel, rfl, by decide +kernel, by decide +kernel⟩
theorem ok_fr_together {f : Addr} {fd : FuncData} (F : Fun K "fr_together" "fr_together" s_fr_together f fd) (T : Txt K mg C CC fs) (m_p_has : C8.Met P w K mg base 1 C "has" (spP C f_has) []) (c_as_number : C8.Cal P w K mg base 1 "as_number" spNum []) (m_p_of_one_set : C8.Met P w K mg base 4 C "of_one_set" (spP C f_one) []) : FnOk P w K mg base CX0 5 f fd ["people", "i", "j"] (spU C CC 17) := by
  refine F.ok sc_fr_together (fun vs H Q E h => ?_) (fun cdv A outer s H vs Q E hr h => ?_)
  · exact u_len h rfl
  · obtain ⟨H0, p, d, i, j, rfl, D, gd, k⟩ := u_q2 Km495.Call.together h
    have g := gd.now
    have R := D.book
    refine ⟨_, (pss_cons (ps_if (PW.pt (pw_or (pt_not (pt_val (C8.pe_mt m_p_has hr (by decide) (pv 0) (pa_cons (pv 1) pa_nil)))) (pw_or1 (pt_not (pt_val (C8.pe_mt m_p_has hr (by decide) (pv 0) (pa_cons (pv 2) pa_nil))))))) (pss_one (ps_ret (pe_lst (pa_cons (C8.pe_gc rfl T.i_NOT_THERE) pa_nil)))) pss_nil)
      (pss_one (ps_ret (pe_lst (pa_cons (C8.pe_c c_as_number hr (by decide) (by rfl) (pa_cons (C8.pe_mt m_p_of_one_set hr (by decide) (pv 0) (pa_cons (pv 1) (pa_cons (pv 2) pa_nil))) pa_nil)) pa_nil))))), ?_⟩
    refine q_when (et_or (et_nohas R rfl rfl) (fun _ => et_nohas R rfl rfl)) (fun hb H1 e1 => ?_) (fun hb H1 e1 => ?_)
    · have c : d.now.no i = true ∨ d.now.no j = true := by
        rw [Bool.or_eq_true] at hb
        rcases hb with hb | hb
        · exact .inl (no_true (not_lt hb))
        · exact .inr (no_true (not_lt hb))
      refine refuse (ret_of k ?_) e1
      show (Km495Neutral.told (if d.now.no i = true ∨ d.now.no j = true then _ else _)).map V.int = _
      rw [if_pos c]
      rfl
    rw [Bool.or_eq_false_iff] at hb
    have hi := is_lt hb.1
    have hj := is_lt hb.2
    have c : ¬ (d.now.no i = true ∨ d.now.no j = true) := fun z => z.elim (no_false hi) (no_false hj)
    have R1 := R.ex e1
    refine finish (el_lst (ea_cons (ev_call0 (ea_cons (ev_pm R1 [i, j] ⟨i, j, rfl, g, hi, hj, rfl⟩ (ev_var rfl) (ea_cons (ev_var rfl) (ea_cons (ev_var rfl) ea_nil))) ea_nil) spNum_v) ea_nil) (by show 1 ≤ 100000; decide)) (ret_of k ?_) e1
    show (Km495Neutral.told (if d.now.no i = true ∨ d.now.no j = true then _ else _)).map V.int = _
    rw [if_neg c]
    show [V.int (if d.now.set_ i = d.now.set_ j then 1 else 0)] = [V.int (if decide (d.now.set_ i = d.now.set_ j) = true then 1 else 0)]
    by_cases z : d.now.set_ i = d.now.set_ j
    · rw [if_pos z, if_pos (decide_eq_true z)]
    · rw [if_neg z, if_neg (by rw [decide_eq_false z]; decide)]
abbrev N_fr_elder : List Str := ["people", "i", "j", "elder", "set_before"]
theorem sc_fr_elder : FnScope N_fr_elder ["people", "i", "j"] (defScope s_fr_elder) := ⟨rfl, rfl, rfl, by decide +kernel, rfl, by decide +kernel, by decide +kernel⟩
theorem ok_fr_elder {f : Addr} {fd : FuncData} (F : Fun K "fr_elder" "fr_elder" s_fr_elder f fd) (T : Txt K mg C CC fs) (m_p_has : C8.Met P w K mg base 1 C "has" (spP C f_has) []) (c_as_number : C8.Cal P w K mg base 1 "as_number" spNum []) (m_p_year_in : C8.Met P w K mg base 4 C "year_in" (spP C f_year) []) (m_p_of_one_set : C8.Met P w K mg base 4 C "of_one_set" (spP C f_one) []) : FnOk P w K mg base CX0 5 f fd ["people", "i", "j"] (spU C CC 18) := by
  refine F.ok sc_fr_elder (fun vs H Q E h => ?_) (fun cdv A outer s H vs Q E hr h => ?_)
  · exact u_len h rfl
  · obtain ⟨H0, p, d, i, j, rfl, D, gd, k⟩ := u_q2 Km495.Call.elder h
    have g := gd.now
    have R := D.book
    refine ⟨_, (pss_cons (ps_if (PW.pt (pw_or (pt_not (pt_val (C8.pe_mt m_p_has hr (by decide) (pv 0) (pa_cons (pv 1) pa_nil)))) (pw_or1 (pt_not (pt_val (C8.pe_mt m_p_has hr (by decide) (pv 0) (pa_cons (pv 2) pa_nil))))))) (pss_one (ps_ret (pe_lst (pa_cons (C8.pe_gc rfl T.i_NOT_THERE) pa_nil)))) pss_nil)
      (pss_cons (ps_set (i := 3) sc_fr_elder.nd rfl (Or.inl rfl) (C8.pe_c c_as_number hr (by decide) (by rfl) (pa_cons (pe_cmpR op_lt (pe_ix ix_list (pe_fld (pv 0) rfl) (pv 1) (fun _ _ => rfl)) (pe_ix ix_list (pe_fld (pv 0) rfl) (pv 2) (fun _ _ => rfl)) (nomark _)) pa_nil)))
      (pss_cons (ps_set (i := 4) sc_fr_elder.nd rfl (Or.inl rfl) (C8.pe_c c_as_number hr (by decide) (by rfl) (pa_cons (pe_cmpR op_lt (C8.pe_mt m_p_year_in hr (by decide) (pv 0) (pa_cons (pv 1) pa_nil)) (C8.pe_mt m_p_year_in hr (by decide) (pv 0) (pa_cons (pv 2) pa_nil)) (nomark _)) pa_nil)))
      (pss_one (ps_ret (pe_lst (pa_cons (pv 3) (pa_cons (pv 4) (pa_cons (C8.pe_c c_as_number hr (by decide) (by rfl) (pa_cons (C8.pe_mt m_p_of_one_set hr (by decide) (pv 0) (pa_cons (pv 1) (pa_cons (pv 2) pa_nil))) pa_nil)) pa_nil))))))))), ?_⟩
    refine q_when (et_or (et_nohas R rfl rfl) (fun _ => et_nohas R rfl rfl)) (fun hb H1 e1 => ?_) (fun hb H1 e1 => ?_)
    · have c : d.now.no i = true ∨ d.now.no j = true := by
        rw [Bool.or_eq_true] at hb
        rcases hb with hb | hb
        · exact .inl (no_true (not_lt hb))
        · exact .inr (no_true (not_lt hb))
      refine refuse (ret_of k ?_) e1
      show (Km495Neutral.told (if d.now.no i = true ∨ d.now.no j = true then _ else _)).map V.int = _
      rw [if_pos c]
      rfl
    rw [Bool.or_eq_false_iff] at hb
    have hi := is_lt hb.1
    have hj := is_lt hb.2
    have c : ¬ (d.now.no i = true ∨ d.now.no j = true) := fun z => z.elim (no_false hi) (no_false hj)
    have R1 := R.ex e1
    refine q_asg (ev_call0 (ea_cons (ev_is (ev_op (ev_born T R1 hi (ev_var rfl) (ev_var rfl)) (ev_born T R1 hj (ev_var rfl) (ev_var rfl)) rv_I0) bl_lt) ea_nil) spNum_v) (fun H2 e2 => ?_)
    have R2 := R1.ex e2
    refine q_asg (ev_call0 (ea_cons (ev_is (ev_op (ev_pm R2 [i] ⟨i, rfl, g, hi, rfl⟩ (ev_var rfl) (ea_cons (ev_var rfl) ea_nil)) (ev_pm R2 [j] ⟨j, rfl, g, hj, rfl⟩ (ev_var rfl) (ea_cons (ev_var rfl) ea_nil)) rv_I0) bl_lt) ea_nil) spNum_v) (fun H3 e3 => ?_)
    have R3 := R2.ex e3
    refine finish (el_lst (ea_cons (ev_var rfl) (ea_cons (ev_var rfl) (ea_cons (ev_call0 (ea_cons (ev_pm R3 [i, j] ⟨i, j, rfl, g, hi, hj, rfl⟩ (ev_var rfl) (ea_cons (ev_var rfl) (ea_cons (ev_var rfl) ea_nil))) ea_nil) spNum_v) ea_nil))) (by show 3 ≤ 100000; decide)) (ret_of k ?_) ((e1.trans e2).trans e3)
    show (Km495Neutral.told (if d.now.no i = true ∨ d.now.no j = true then _ else _)).map V.int = _
    rw [if_neg c]
    have q : (d.now.enters i < d.now.enters j) ↔ (d.now.set_ i < d.now.set_ j) := by
      have t1 := g.t1
      unfold Km495.Book.enters
      constructor
      · intro z
        exact Nat.lt_of_mul_lt_mul_right (a := d.now.term) (by omega)
      · intro z
        have := Nat.mul_lt_mul_of_pos_right z (show 0 < d.now.term by omega)
        omega
    have b2i : ∀ (P : Prop) [Decidable P], (if decide P = true then (1 : Int) else 0) = ((if P then 1 else 0 : Nat) : Int) := by
      intro P _
      by_cases z : P
      · rw [if_pos (decide_eq_true z), if_pos z]
        rfl
      · rw [if_neg (by rw [decide_eq_false z]; decide), if_neg z]
        rfl
    refine (told_map _ _).trans ?_
    show [V.int (if (d.now.at_ i).born < (d.now.at_ j).born then 1 else 0), nV (if d.now.set_ i < d.now.set_ j then 1 else 0), nV (if d.now.set_ i = d.now.set_ j then 1 else 0)] = [V.int (if decide ((d.now.at_ i).born < (d.now.at_ j).born) = true then 1 else 0), V.int (if decide (d.now.enters i < d.now.enters j) = true then 1 else 0), V.int (if decide (d.now.set_ i = d.now.set_ j) = true then 1 else 0)]
    rw [b2i, b2i, b2i]
    have e1' : (if d.now.enters i < d.now.enters j then 1 else 0 : Nat) = (if d.now.set_ i < d.now.set_ j then 1 else 0) := by
      by_cases z : d.now.set_ i < d.now.set_ j
      · rw [if_pos z, if_pos (q.mpr z)]
      · rw [if_neg z, if_neg (fun w => z (q.mp w))]
    rw [e1']
    congr 1
    by_cases z : (d.now.at_ i).born < (d.now.at_ j).born
    · rw [if_pos z, if_pos z]
      rfl
    · rw [if_neg z, if_neg z]
      rfl
abbrev N_fr_window : List Str := ["people", "p", "l", "h", "son_in", "first", "last"]
theorem sc_fr_window : FnScope N_fr_window ["people", "p", "l", "h"] (defScope s_fr_window) := ⟨rfl, rfl, rfl, by decide +kernel, rfl, by decide +kernel, by decide +kernel⟩
theorem ok_fr_window {f : Addr} {fd : FuncData} (F : Fun K "fr_window" "fr_window" s_fr_window f fd) (T : Txt K mg C CC fs) (m_p_has : C8.Met P w K mg base 1 C "has" (spP C f_has) []) (m_p_year_in : C8.Met P w K mg base 4 C "year_in" (spP C f_year) []) (m_p_gap : C8.Met P w K mg base 1 C "gap" (spP C f_gap) []) : FnOk P w K mg base CX0 5 f fd ["people", "p", "l", "h"] (spU C CC 15) := by
  refine F.ok sc_fr_window (fun vs H Q E h => ?_) (fun cdv A outer s H vs Q E hr h => ?_)
  · exact u_len h rfl
  · obtain ⟨H0, p, d, i, l, m, rfl, D, gd, k⟩ := u_q3 Km495.Call.window h
    have g := gd.now
    have R := D.book
    refine ⟨_, (pss_cons (ps_if (pt_not (pt_val (C8.pe_mt m_p_has hr (by decide) (pv 0) (pa_cons (pv 1) pa_nil)))) (pss_one (ps_ret (pe_lst (pa_cons (C8.pe_gc rfl T.i_NOT_THERE) pa_nil)))) pss_nil)
      (pss_cons (ps_if (PW.pt (pw_or (pt_cmpR op_lt (pv 3) (pv 2) (nomark _)) (pw_or1 (pt_cmpR op_gt (pv 3) (C8.pe_gc rfl T.i_HIGHEST_AGE_ASKED) (nomark _))))) (pss_one (ps_ret (pe_lst (pa_cons (C8.pe_gc rfl T.i_OUT_OF_BOUNDS) pa_nil)))) pss_nil)
      (pss_cons (ps_set (i := 4) sc_fr_window.nd rfl (Or.inl rfl) (pe_op op_add (C8.pe_mt m_p_year_in hr (by decide) (pv 0) (pa_cons (pv 1) pa_nil)) (C8.pe_mt0 m_p_gap hr (by decide) (pv 0))))
      (pss_cons (ps_set (i := 5) sc_fr_window.nd rfl (Or.inl rfl) (pe_callB (call_max2 rfl) (by rfl) T.z_max (by decide +kernel) (pa_cons (pe_op op_sub (pv 4) (pv 3)) (pa_cons (pe_op op_add (pe_ix ix_list (pe_fld (pv 0) rfl) (pv 1) (fun _ _ => rfl)) pe_int) pa_nil))))
      (pss_cons (ps_set (i := 6) sc_fr_window.nd rfl (Or.inl rfl) (pe_op op_sub (pv 4) (pv 2)))
      (pss_cons (ps_if (pt_cmpR op_lt (pv 6) (pv 5) (nomark _)) (pss_one (ps_ret (pe_lst (pa_cons (C8.pe_gc rfl T.i_HAS_NONE) pa_nil)))) pss_nil)
      (pss_one (ps_ret (pe_lst (pa_cons (pv 5) (pa_cons (pv 6) pa_nil))))))))))), ?_⟩
    refine q_when (et_nohas R rfl rfl) (fun hb H1 e1 => refuse (ret_of k (act_no1 rfl (not_lt hb))) e1) (fun hb H1 e1 => ?_)
    have hi := is_lt hb
    refine q_when (et_or (et_test (ev_op (ev_var rfl) (ev_var rfl) rv_I0)) (fun _ => et_test (ev_op (ev_var rfl) ev_c rv_I0))) (fun hb2 H2 e2 => ?_) (fun hb2 H2 e2 => ?_)
    · have c : m < l ∨ Km495.LAST < m := by
        rw [Bool.or_eq_true, decide_eq_true_eq, decide_eq_true_eq] at hb2
        show m < l ∨ 2000 < m
        omega
      refine refuse (ret_of k ?_) (e1.trans e2)
      show (Km495Neutral.told (if d.now.no i = true then _ else if m < l ∨ Km495.LAST < m then _ else _)).map V.int = _
      rw [if_neg (no_false hi), if_pos c]
      rfl
    have c : ¬ (m < l ∨ Km495.LAST < m) := by
      rw [Bool.or_eq_false_iff, decide_eq_false_iff_not, decide_eq_false_iff_not] at hb2
      show ¬ (m < l ∨ 2000 < m)
      omega
    have R2 := (R.ex e1).ex e2
    refine q_asg (ev_is (ev_op (ev_pm R2 [i] ⟨i, rfl, g, hi, rfl⟩ (ev_var rfl) (ea_cons (ev_var rfl) ea_nil)) (ev_pm R2 [] ⟨rfl, g, rfl⟩ (ev_var rfl) ea_nil) rv_I0) (show V.int ((d.now.enters i : Int) + (d.now.gap : Int)) = nV (d.now.enters i + d.now.gap) from rfl)) (fun H3 e3 => ?_)
    have R3 := R2.ex e3
    refine q_asg (ev_is (ev_max2 (ev_op (ev_var rfl) (ev_var rfl) rv_I0) (ev_op (ev_born T R3 hi (ev_var rfl) (ev_var rfl)) ev_c rv_I0)) (w := nV (max ((d.now.at_ i).born + 1) (d.now.enters i + d.now.gap - m))) ?_) (fun H4 e4 => ?_)
    · show V.int (if ((d.now.at_ i).born : Int) + 1 > ((d.now.enters i + d.now.gap : Nat) : Int) - (m : Int) then ((d.now.at_ i).born : Int) + 1 else ((d.now.enters i + d.now.gap : Nat) : Int) - (m : Int)) = V.int ((max ((d.now.at_ i).born + 1) (d.now.enters i + d.now.gap - m) : Nat) : Int)
      congr 1
      split <;> omega
    refine q_asg (ev_op (ev_var rfl) (ev_var rfl) rv_I0) (fun H5 e5 => ?_)
    refine q_when (et_test (ev_op (ev_var rfl) (ev_var rfl) rv_I0)) (fun hb3 H6 e6 => ?_) (fun hb3 H6 e6 => ?_)
    · have c3 : d.now.enters i + d.now.gap < l ∨ d.now.enters i + d.now.gap - l < max ((d.now.at_ i).born + 1) (d.now.enters i + d.now.gap - m) := by
        have := of_decide_eq_true hb3
        omega
      refine refuse (ret_of k ?_) (((((e1.trans e2).trans e3).trans e4).trans e5).trans e6)
      show (Km495Neutral.told (if d.now.no i = true then _ else if m < l ∨ Km495.LAST < m then _ else if d.now.enters i + d.now.gap < l ∨ d.now.enters i + d.now.gap - l < max ((d.now.at_ i).born + 1) (d.now.enters i + d.now.gap - m) then _ else _)).map V.int = _
      rw [if_neg (no_false hi), if_neg c, if_pos c3]
      rfl
    · have c3 : ¬ (d.now.enters i + d.now.gap < l ∨ d.now.enters i + d.now.gap - l < max ((d.now.at_ i).born + 1) (d.now.enters i + d.now.gap - m)) := by
        have := of_decide_eq_false hb3
        omega
      refine finish (el_lst (ea_cons (ev_var rfl) (ea_cons (ev_var rfl) ea_nil)) (by show 2 ≤ 100000; decide)) (ret_of k ?_) (((((e1.trans e2).trans e3).trans e4).trans e5).trans e6)
      show (Km495Neutral.told (if d.now.no i = true then _ else if m < l ∨ Km495.LAST < m then _ else if d.now.enters i + d.now.gap < l ∨ d.now.enters i + d.now.gap - l < max ((d.now.at_ i).born + 1) (d.now.enters i + d.now.gap - m) then _ else _)).map V.int = _
      rw [if_neg (no_false hi), if_neg c, if_neg c3]
      refine (told_map _ _).trans ?_
      show [nV (max ((d.now.at_ i).born + 1) (d.now.enters i + d.now.gap - m)), nV (d.now.enters i + d.now.gap - l)] = [nV (max ((d.now.at_ i).born + 1) (d.now.enters i + d.now.gap - m)), V.int (((d.now.enters i + d.now.gap : Nat) : Int) - (l : Int))]
      congr 2
      show V.int ((d.now.enters i + d.now.gap - l : Nat) : Int) = _
      congr 1
      omega
end
end Fs
namespace Fs
open PySem PySem.Spec PyProof.Rows L2 Evl
open Km495 (Book Desk Man)
/-! ### what changes, and what is kept -/
def Kp (S : List Addr) (H H' : Hp) : Prop := ∀ b o, b ∉ S → H b = some o → H' b = some o
def Dm (H H' : Hp) : Prop := ∀ b, H' b = none → H b = none
theorem Kp.ex {S : List Addr} {H H' : Hp} (e : Ex H H') : Kp S H H' := fun b o _ h => e b o h
theorem Kp.trans {S : List Addr} {H H1 H2 : Hp} (a : Kp S H H1) (b : Kp S H1 H2) : Kp S H H2 := fun x o hx h => b x o hx (a x o hx h)
theorem Kp.upd {S : List Addr} {H H1 : Hp} {a : Addr} {o : HO} (h : Kp S H H1) (ha : a ∈ S) : Kp S H (upd H1 a o) := fun x u hx q => by
  rw [upd_ne (fun z => hx (by rw [z]; exact ha))]
  exact h x u hx q
theorem Kp.sub {S S' : List Addr} {H H' : Hp} (h : Kp S H H') (hs : ∀ a ∈ S, a ∈ S') : Kp S' H H' := fun x o hx q => h x o (fun z => hx (hs x z)) q
theorem Dm.ex {H H' : Hp} (e : Ex H H') : Dm H H' := fun _ h => fresh_back e h
theorem Dm.trans {H H1 H2 : Hp} (a : Dm H H1) (b : Dm H1 H2) : Dm H H2 := fun x h => a x (b x h)
theorem Dm.upd {H H1 : Hp} {a : Addr} {o : HO} (h : Dm H H1) : Dm H (upd H1 a o) := fun x q => by
  by_cases z : x = a
  · rw [z, upd_same] at q
    cases q
  · rw [upd_ne z] at q
    exact h x q
section
variable {K : PySem.W.Frag} {σ : L2.St} {H H' : Hp} {ta tb te tv : TE} {v : V} {D : Ends} {tz : TS}
theorem s_setF {a C dx : Addr} {fs : List (Str × V)} {f : Str} (hv : Ev tv σ H v) (ho : Ev ta σ H (.ref a)) (h : H a = some (.ins C dx fs)) (cl : Cls K C) (na : NoAttr K C f) (hl : fs.length < 1000) (k : ∀ H1, Ex H H1 → D.nx σ (upd H1 a (.ins C dx (putF f v fs)))) : sFld K ta tv f D σ H :=
  hv H (Ex.refl H) _ fun H1 e1 => ho H1 e1 _ fun H2 e2 => ⟨a, C, dx, fs, rfl, (e1.trans e2) _ _ h, cl, na, hl, k H2 (e1.trans e2)⟩
theorem q_setF {a C dx : Addr} {fs : List (Str × V)} {f : Str} (hv : Ev tv σ H v) (ho : Ev ta σ H (.ref a)) (h : H a = some (.ins C dx fs)) (cl : Cls K C) (na : NoAttr K C f) (hl : fs.length < 1000) (k : ∀ H1, Ex H H1 → tz D σ (upd H1 a (.ins C dx (putF f v fs)))) : tSeq (sFld K ta tv f) tz D σ H :=
  s_setF (D := { D with nx := tz D }) hv ho h cl na hl k
theorem s_setFL {a C dx : Addr} {fs : List (Str × V)} {f : Str} {xs : List V} (hv : EvL tv σ H xs) (ho : Ev ta σ H (.ref a)) (h : H a = some (.ins C dx fs)) (cl : Cls K C) (na : NoAttr K C f) (hl : fs.length < 1000)
    (k : ∀ p H1, H p = none → Ex H H1 → H1 p = some (.lst xs) → D.nx σ (upd H1 a (.ins C dx (putF f (.ref p) fs)))) : sFld K ta tv f D σ H :=
  hv H (Ex.refl H) _ fun p H1 hp e1 h1 => ho H1 e1 _ fun H2 e2 => ⟨a, C, dx, fs, rfl, (e1.trans e2) _ _ h, cl, na, hl, k p H2 hp (e1.trans e2) (e2 _ _ h1)⟩
theorem q_setFL {a C dx : Addr} {fs : List (Str × V)} {f : Str} {xs : List V} (hv : EvL tv σ H xs) (ho : Ev ta σ H (.ref a)) (h : H a = some (.ins C dx fs)) (cl : Cls K C) (na : NoAttr K C f) (hl : fs.length < 1000)
    (k : ∀ p H1, H p = none → Ex H H1 → H1 p = some (.lst xs) → tz D σ (upd H1 a (.ins C dx (putF f (.ref p) fs)))) : tSeq (sFld K ta tv f) tz D σ H :=
  s_setFL (D := { D with nx := tz D }) hv ho h cl na hl k
theorem s_pop {l : Addr} {xs : List V} {z : V} (hl : H l = some (.lst (xs ++ [z]))) (ha : Ev ta σ H (.ref l)) (k : ∀ H1, Ex H H1 → D.nx σ (upd H1 l (.lst xs))) : tDrop (tBM0 K "list" rPop ta) D σ H :=
  ha H (Ex.refl H) _ fun H1 e1 => ⟨Or.inl ⟨rfl, _, sq_of (e1 l _ hl)⟩, l, xs ++ [z], z, rfl, rfl, e1 l _ hl, by simp, by rw [List.dropLast_concat]; exact k H1 e1⟩
theorem q_pop {l : Addr} {xs : List V} {z : V} (hl : H l = some (.lst (xs ++ [z]))) (ha : Ev ta σ H (.ref l)) (k : ∀ H1, Ex H H1 → tz D σ (upd H1 l (.lst xs))) : tSeq (tDrop (tBM0 K "list" rPop ta)) tz D σ H :=
  s_pop (D := { D with nx := tz D }) hl ha k
/-- return xs.pop() -/
theorem s_retPop {l : Addr} {xs : List V} {z : V} (hl : H l = some (.lst (xs ++ [z]))) (ha : Ev ta σ H (.ref l)) (k : ∀ H1, Ex H H1 → D.rt z (upd H1 l (.lst xs))) : tRet (tBM0 K "list" rPop ta) D σ H :=
  ha H (Ex.refl H) _ fun H1 e1 => ⟨Or.inl ⟨rfl, _, sq_of (e1 l _ hl)⟩, l, xs ++ [z], z, rfl, rfl, e1 l _ hl, by simp, by rw [List.dropLast_concat]; exact k H1 e1⟩
theorem s_pop0 {l : Addr} {xs : List V} {z : V} (hl : H l = some (.lst (z :: xs))) (ha : Ev ta σ H (.ref l)) (hi : Ev tb σ H (.int 0)) (k : ∀ H1, Ex H H1 → D.nx σ (upd H1 l (.lst xs))) : tDrop (tBM K "list" rPopAt ta (tCons tb tNil)) D σ H :=
  ha H (Ex.refl H) _ fun H1 e1 => ⟨Or.inl ⟨rfl, _, sq_of (e1 l _ hl)⟩, hi H1 e1 _ fun H2 e2 => ⟨l, z :: xs, 0, 0, z, rfl, rfl, e2 l _ (e1 l _ hl), by decide, by decide, by simp [seqIndex?], rfl, k H2 (e1.trans e2)⟩⟩
end
def noted (xs : List V) (v : V) : List V := if 20 < xs.length + 1 then (xs ++ [v]).tail else xs ++ [v]
/-! ### the promises of what changes -/
def spCInit (CC : Addr) : Sp := fun vs H Q _ => ∃ p dx : Addr, vs = [.ref p] ∧ H p = some (.ins CC dx []) ∧
  ∀ (e l : Addr) (H' : Hp), H e = none → H l = none → e ≠ l → H' p = some (.ins CC dx (cF e l)) → H' e = some (.lst []) → H' l = some (.lst []) → Kp [p] H H' → Dm H H' → Q .non H'
def spNote (CC : Addr) : Sp := fun vs H Q _ => ∃ (c dc le ll : Addr) (xs : List V) (v : V), vs = [.ref c, v] ∧ H c = some (.ins CC dc (cF le ll)) ∧ H le = some (.lst xs) ∧ xs.length ≤ 1000 ∧
  ∀ (l : Addr) (H' : Hp), H l = none → H' c = some (.ins CC dc (cF le l)) → H' le = some (.lst (noted xs v)) → H' l = some (.lst []) → Kp [c, le] H H' → Dm H H' → Q .non H'
def spStepBack (CC : Addr) : Sp := fun vs H Q _ => ∃ (c dc le ll : Addr) (xs ys : List V) (v z : V), vs = [.ref c, v] ∧ H c = some (.ins CC dc (cF le ll)) ∧ H le = some (.lst (xs ++ [z])) ∧ H ll = some (.lst ys) ∧ le ≠ ll ∧ ys.length ≤ 1000 ∧
  ∀ H' : Hp, H' le = some (.lst xs) → H' ll = some (.lst (ys ++ [v])) → Kp [le, ll] H H' → Dm H H' → Q z H'
def spStepOn (CC : Addr) : Sp := fun vs H Q _ => ∃ (c dc le ll : Addr) (xs ys : List V) (v z : V), vs = [.ref c, v] ∧ H c = some (.ins CC dc (cF le ll)) ∧ H le = some (.lst xs) ∧ H ll = some (.lst (ys ++ [z])) ∧ le ≠ ll ∧ xs.length ≤ 1000 ∧
  ∀ H' : Hp, H' le = some (.lst (xs ++ [v])) → H' ll = some (.lst ys) → Kp [le, ll] H H' → Dm H H' → Q z H'
def spHmb (CC : Addr) : Sp := fun vs H Q _ => ∃ (c dc le ll : Addr) (xs : List V), vs = [.ref c] ∧ H c = some (.ins CC dc (cF le ll)) ∧ H le = some (.lst xs) ∧ RetV (nV xs.length) H Q
def spHma (CC : Addr) : Sp := fun vs H Q _ => ∃ (c dc le ll : Addr) (xs : List V), vs = [.ref c] ∧ H c = some (.ins CC dc (cF le ll)) ∧ H ll = some (.lst xs) ∧ RetV (nV xs.length) H Q
def spStanding (C : Addr) : Sp := fun vs H Q _ => ∃ (p : Addr) (b : Book), vs = [.ref p] ∧ BookAt C H p b ∧
  ∀ (e : Ent) (H' : Hp), H e.a = none → H e.lf = none → H e.lb = none → e.lf ≠ e.lb → Ex H H' → EntAt H' e b → Q (.ref e.a) H'
def spStandAs (C : Addr) : Sp := fun vs H Q _ => ∃ (p dx lf lb c : Addr) (t k g f k' : Nat) (e : Ent), vs = [.ref p, .ref e.a] ∧ H p = some (.ins C dx (pF t k g f lf lb c)) ∧ H e.a = some (.tup [nV k', .ref e.lf, .ref e.lb]) ∧
  ∀ H' : Hp, H' p = some (.ins C dx (pF t k' g f e.lf e.lb c)) → Kp [p] H H' → Dm H H' → Q .non H'
def spPInit (C CC : Addr) : Sp := fun vs H Q _ => ∃ (H0 : Hp) (p dx : Addr), vs = [.ref p] ∧ Ex H0 H ∧ H0 p = none ∧ H p = some (.ins C dx []) ∧ ∀ H' : Hp, DeskAt C CC H0 H' p zeroDesk → Q .non H'
def spBegin (C CC : Addr) : Sp := fun vs H Q _ => ∃ (H0 : Hp) (p : Addr) (d : Desk) (t k g f : Nat), vs = [.ref p, nV t, nV k, nV g, nV f] ∧ DeskAt C CC H0 H p d ∧ ∀ H' : Hp, DeskAt C CC H0 H' p (Km495.fresh t k g f) → Q .non H'
def spAddSon (C CC : Addr) : Sp := fun vs H Q _ => ∃ (H0 : Hp) (p : Addr) (d : Desk) (i y : Nat), vs = [.ref p, nV i, nV y] ∧ DeskAt C CC H0 H p d ∧ d.now.n ≤ 1000 ∧ d.past.length ≤ 20 ∧
  ∀ H' : Hp, DeskAt C CC H0 H' p (d.become { d.now with men := d.now.men ++ [⟨i, y⟩] }) → Q .non H'
def spDropLast (C CC : Addr) : Sp := fun vs H Q _ => ∃ (H0 : Hp) (p : Addr) (d : Desk), vs = [.ref p] ∧ DeskAt C CC H0 H p d ∧ 1 ≤ d.now.n ∧ d.past.length ≤ 20 ∧
  ∀ H' : Hp, DeskAt C CC H0 H' p (d.become { d.now with men := d.now.men.dropLast }) → Q .non H'
def spPutBehind (C CC : Addr) : Sp := fun vs H Q _ => ∃ (H0 : Hp) (p : Addr) (d : Desk) (k : Nat), vs = [.ref p, nV k] ∧ DeskAt C CC H0 H p d ∧ d.past.length ≤ 20 ∧
  ∀ H' : Hp, DeskAt C CC H0 H' p (d.become { d.now with behind := k }) → Q .non H'
def spTakeBack (C CC : Addr) : Sp := fun vs H Q _ => ∃ (H0 : Hp) (p : Addr) (d : Desk) (b : Book) (r : List Book), vs = [.ref p] ∧ DeskAt C CC H0 H p d ∧ d.past = b :: r ∧ Kin b d.now ∧ d.future.length ≤ 1000 ∧
  ∀ H' : Hp, DeskAt C CC H0 H' p ⟨b, r, d.now :: d.future⟩ → Q .non H'
def spDoAgain (C CC : Addr) : Sp := fun vs H Q _ => ∃ (H0 : Hp) (p : Addr) (d : Desk) (b : Book) (r : List Book), vs = [.ref p] ∧ DeskAt C CC H0 H p d ∧ d.future = b :: r ∧ Kin b d.now ∧ d.past.length ≤ 1000 ∧
  ∀ H' : Hp, DeskAt C CC H0 H' p ⟨b, d.now :: d.past, r⟩ → Q .non H'
/-! ### a class's __init__ without arguments -/
structure Mak0 (P : Program) (w : World) (K : PySem.W.Frag) (mg : Str → Option Value) (base : Heap) (k : Nat) (x : Str) (C : Addr) (sp : Sp) : Prop where
  ex : ∃ (f : Addr) (fd : FuncData) (ps : List Str), Mk K C f ∧ FnOk P w K mg base CX0 k f fd ps sp ∧ mg x = some (.ref C) ∧ Binds K fd ps []
theorem pe_mk0 {X : Cx} {k j : Nat} {x : Str} {C : Addr} {sp : Sp} {p pos : Pos} (c : Mak0 X.prog X.w X.K X.mg X.base k x C sp) (hr : Room j X.A) (hk : k + 1 ≤ j) (hg : Gl X x) (hdb : (x == ("__debug__" : Str)) = false := by decide) : PE X (.Call (.Name x p) [] [] pos) (tMake C sp [] E0 tNil) := by
  obtain ⟨f, fd, ps, M, F, hm, b⟩ := c.ex
  exact pe_make0 M F (hr.mono hk) hg hm b .nil pass0 hdb
/-! ### the desk behind a change -/
section
variable {C CC p : Addr} {H0 H H1 H2 H3 : Hp} {d : Desk} {dx c dc lf lb le ll : Addr} {ps fs : List (Ent × Book)}
theorem Lay.trk (L : Lay C CC H0 H p d dx c dc lf lb le ll ps fs) : ∀ a ∈ lf :: lb :: le :: ll :: (own ps ++ own fs), ∃ xs, H a = some (.lst xs) := by
  intro a ha
  simp only [List.mem_cons, List.mem_append] at ha
  rcases ha with rfl | rfl | rfl | rfl | ha | ha
  · exact ⟨_, L.hf⟩
  · exact ⟨_, L.hb⟩
  · exact ⟨_, L.he⟩
  · exact ⟨_, L.hl⟩
  · obtain ⟨x, hx, rfl | rfl⟩ := mem_own.mp ha
    · exact ⟨_, (L.hps x hx).2.1⟩
    · exact ⟨_, (L.hps x hx).2.2⟩
  · obtain ⟨x, hx, rfl | rfl⟩ := mem_own.mp ha
    · exact ⟨_, (L.hfs x hx).2.1⟩
    · exact ⟨_, (L.hfs x hx).2.2⟩
theorem Lay.npc (L : Lay C CC H0 H p d dx c dc lf lb le ll ps fs) : p ≠ c := fun z => by
  have h := L.hp
  rw [z, L.hc] at h
  injection h with h
  injection h with _ _ h
  exact absurd (congrArg List.length h) (by show ¬ 2 = 7; decide)
/-- lists are neither p nor c -/
theorem Lay.nls (L : Lay C CC H0 H p d dx c dc lf lb le ll ps fs) {a : Addr} (ha : a ∈ lf :: lb :: le :: ll :: (own ps ++ own fs)) : a ≠ p ∧ a ≠ c := by
  obtain ⟨xs, h⟩ := L.trk a ha
  refine And.intro (fun z => ?_) (fun z => ?_)
  · rw [z, L.hp] at h
    cases h
  · rw [z, L.hc] at h
    cases h
theorem own_cons {x : Ent × Book} {r : List (Ent × Book)} : own (x :: r) = x.1.lf :: x.1.lb :: own r := rfl
theorem own_take {r : List (Ent × Book)} {n : Nat} : (own (r.take n)).Sublist (own r) := by
  induction r generalizing n with
  | nil =>
    rw [List.take_nil]
    exact List.Sublist.refl _
  | cons x r ih =>
    cases n with
    | zero => exact List.nil_sublist _
    | succ n =>
      rw [List.take_succ_cons, own_cons, own_cons]
      exact (ih.cons_cons _).cons_cons _
theorem EntAt.kp {S : List Addr} {e : Ent} {b : Book} (h : EntAt H e b) (k : Kp S H H1) (ha : e.a ∉ S) (hf : e.lf ∉ S) (hb : e.lb ∉ S) : EntAt H1 e b := ⟨k _ _ ha h.1, k _ _ hf h.2.1, k _ _ hb h.2.2⟩
/-- a tuple is no list, no instance -/
theorem EntAt.ne_l {e : Ent} {b : Book} (h : EntAt H e b) {a : Addr} {xs : List V} (ha : H a = some (.lst xs)) : e.a ≠ a := fun z => by
  have q := h.1
  rw [z, ha] at q
  cases q
theorem EntAt.ne_i {e : Ent} {b : Book} (h : EntAt H e b) {a C dx : Addr} {f : List (Str × V)} (ha : H a = some (.ins C dx f)) : e.a ≠ a := fun z => by
  have q := h.1
  rw [z, ha] at q
  cases q
theorem noted_eq {x : Ent × Book} {ps : List (Ent × Book)} (h : ps.length ≤ 20) : noted (ps.reverse.map entV) (entV x) = ((x :: ps).take 20).reverse.map entV := by
  have e : ps.reverse.map entV ++ [entV x] = (x :: ps).reverse.map entV := by
    rw [List.reverse_cons, List.map_append]
    rfl
  unfold noted
  rw [e, List.length_map, List.length_reverse]
  by_cases c : 20 < ps.length + 1
  · rw [if_pos c, ← List.map_tail, List.tail_reverse, List.dropLast_eq_take, List.length_cons]
    have z : ps.length + 1 - 1 = 20 := by omega
    rw [z]
  · rw [if_neg c, List.take_of_length_le (by rw [List.length_cons]; omega)]
/-- the standing is kept, behind note -/
theorem Lay.noted (L : Lay C CC H0 H p d dx c dc lf lb le ll ps fs) {e : Ent} {l : Addr} (hn : ps.length ≤ 20) (ha : H e.a = none) (hlf : H e.lf = none) (hlb : H e.lb = none) (hne : e.lf ≠ e.lb) (e1 : Ex H H1) (he : EntAt H1 e d.now)
    (hl : H1 l = none) (h2c : H2 c = some (.ins CC dc (cF le l))) (h2e : H2 le = some (.lst (noted (ps.reverse.map entV) (.ref e.a)))) (h2l : H2 l = some (.lst [])) (kp : Kp [c, le] H1 H2) :
    Lay C CC H0 H2 p ⟨d.now, (d.now :: d.past).take 20, []⟩ dx c dc lf lb le l (((e, d.now) :: ps).take 20) [] := by
  have tr := L.trk
  have nd := L.nd
  simp only [List.nodup_cons, List.mem_cons, List.mem_append, not_or] at nd
  have neP := L.npc
  have n1 := L.nls (a := lf) (by simp)
  have n2 := L.nls (a := lb) (by simp)
  have n3 := L.nls (a := le) (by simp)
  have h0 : ∀ a, H a = none → H0 a = none := fun a h => fresh_back L.ex h
  have tr1 : ∀ a ∈ lf :: lb :: le :: ll :: (own ps ++ own fs), l ≠ a := fun a h z => by
    obtain ⟨xs, q⟩ := tr a h
    rw [z, e1 _ _ q] at hl
    cases hl
  have trf : ∀ a ∈ lf :: lb :: le :: ll :: (own ps ++ own fs), e.lf ≠ a ∧ e.lb ≠ a := fun a h => by
    obtain ⟨xs, q⟩ := tr a h
    refine And.intro (fun z => ?_) (fun z => ?_)
    · rw [z, q] at hlf
      cases hlf
    · rw [z, q] at hlb
      cases hlb
  have lf1 : l ≠ e.lf ∧ l ≠ e.lb := ⟨fun z => (by rw [z, he.2.1] at hl; cases hl), fun z => (by rw [z, he.2.2] at hl; cases hl)⟩
  have ec : e.lf ≠ c ∧ e.lb ≠ c := ⟨fun z => (by rw [z, L.hc] at hlf; cases hlf), fun z => (by rw [z, L.hc] at hlb; cases hlb)⟩
  have sub : (own (((e, d.now) :: ps).take 20)).Sublist (e.lf :: e.lb :: own ps) := own_take
  have big : (lf :: lb :: le :: l :: (e.lf :: e.lb :: own ps)).Nodup := by
    have t0 := tr1 lf (by simp)
    have t1 := tr1 lb (by simp)
    have t2 := tr1 le (by simp)
    have t3 : ∀ a ∈ own ps, l ≠ a := fun a h => tr1 a (by simp [h])
    have u0 := trf lf (by simp)
    have u1 := trf lb (by simp)
    have u2 := trf le (by simp)
    have u3 : ∀ a ∈ own ps, e.lf ≠ a ∧ e.lb ≠ a := fun a h => trf a (by simp [h])
    have ndp : (own ps).Nodup := by
      have := nd.2.2.2.2
      exact (List.nodup_append.mp this).1
    simp only [List.nodup_cons, List.mem_cons, not_or]
    refine ⟨⟨nd.1.1, nd.1.2.1, t0.symm, u0.1.symm, u0.2.symm, nd.1.2.2.2.1⟩, ⟨nd.2.1.1, t1.symm, u1.1.symm, u1.2.symm, nd.2.1.2.2.1⟩, ⟨t2.symm, u2.1.symm, u2.2.symm, nd.2.2.1.2.1⟩, ⟨lf1.1, lf1.2, fun h => t3 _ h rfl⟩, ⟨hne, fun h => (u3 _ h).1 rfl⟩, fun h => (u3 _ h).2 rfl, ndp⟩
  refine ⟨?_, ?_, h2c, ?_, ?_, ?_, ?_, ?_, (fun x hx => by cases hx), ?_, rfl, ?_, ?_⟩
  · intro a o q
    have ha1 : a ≠ c := fun z => by
      have := L.fr c (by simp)
      rw [← z, q] at this
      cases this
    have ha2 : a ≠ le := fun z => by
      have := L.fr le (by simp)
      rw [← z, q] at this
      cases this
    exact kp a o (by simp [ha1, ha2]) (e1 _ _ (L.ex _ _ q))
  · exact kp _ _ (by simp [neP, n3.1.symm]) (e1 _ _ L.hp)
  · exact kp _ _ (by simp [n1.2, nd.1.2.1]) (e1 _ _ L.hf)
  · exact kp _ _ (by simp [n2.2, nd.2.1.1]) (e1 _ _ L.hb)
  · rw [h2e]
    exact congrArg (fun q => some (HO.lst q)) (noted_eq (x := (e, d.now)) hn)
  · exact h2l
  · intro x hx
    have hx' := List.mem_of_mem_take hx
    cases hx' with
    | head => exact he.kp kp (by simp [he.ne_i (e1 _ _ L.hc), he.ne_l (e1 _ _ L.he)]) (by simp [ec.1, (trf le (by simp)).1]) (by simp [ec.2, (trf le (by simp)).2])
    | tail _ hx' =>
      have q := (L.hps x hx').same e1
      have m1 : x.1.lf ∈ own ps := mem_own.mpr ⟨x, hx', .inl rfl⟩
      have m2 : x.1.lb ∈ own ps := mem_own.mpr ⟨x, hx', .inr rfl⟩
      have z1 := L.nls (a := x.1.lf) (by simp [m1])
      have z2 := L.nls (a := x.1.lb) (by simp [m2])
      have y1 : x.1.lf ≠ le := fun z => nd.2.2.1.2.1 (z ▸ m1)
      have y2 : x.1.lb ≠ le := fun z => nd.2.2.1.2.1 (z ▸ m2)
      exact q.kp kp (by simp [q.ne_i (e1 _ _ L.hc), q.ne_l (e1 _ _ L.he)]) (by simp [z1.2, y1]) (by simp [z2.2, y2])
  · show (d.now :: d.past).take 20 = (((e, d.now) :: ps).take 20).map (·.2)
    rw [L.ep, List.map_take, List.map_cons]
  · have q : own ([] : List (Ent × Book)) = [] := rfl
    rw [q, List.append_nil]
    exact big.sublist ((((sub.cons_cons _).cons_cons _).cons_cons _).cons_cons _)
  · intro a ha'
    have q : own ([] : List (Ent × Book)) = [] := rfl
    rw [q, List.append_nil] at ha'
    simp only [List.mem_cons] at ha'
    rcases ha' with rfl | rfl | rfl | rfl | rfl | rfl | ha'
    · exact L.fr _ (by simp)
    · exact L.fr _ (by simp)
    · exact L.fr _ (by simp)
    · exact L.fr _ (by simp)
    · exact L.fr _ (by simp)
    · exact h0 _ (fresh_back e1 hl)
    · have := sub.mem ha'
      simp only [List.mem_cons] at this
      rcases this with rfl | rfl | this
      · exact h0 _ hlf
      · exact h0 _ hlb
      · exact L.fr _ (by simp [this])
/-- other men -/
theorem Lay.men (L : Lay C CC H0 H p d dx c dc lf lb le ll ps fs) {m : List Man} (hf : H1 lf = some (.lst (fV { d.now with men := m }))) (hb : H1 lb = some (.lst (bV { d.now with men := m }))) (kp : Kp [lf, lb] H H1) :
    Lay C CC H0 H1 p ⟨{ d.now with men := m }, d.past, d.future⟩ dx c dc lf lb le ll ps fs := by
  have nd := L.nd
  simp only [List.nodup_cons, List.mem_cons, List.mem_append, not_or] at nd
  have n1 := L.nls (a := lf) (by simp)
  have n2 := L.nls (a := lb) (by simp)
  have ent : ∀ x : Ent × Book, EntAt H x.1 x.2 → x.1.lf ∈ own ps ∨ x.1.lf ∈ own fs → x.1.lb ∈ own ps ∨ x.1.lb ∈ own fs → EntAt H1 x.1 x.2 := fun x q m1 m2 => by
    refine q.kp kp (by simp [q.ne_l L.hf, q.ne_l L.hb]) ?_ ?_
    · simp only [List.mem_cons, List.not_mem_nil, or_false, not_or]
      exact ⟨fun z => m1.elim (fun m1 => nd.1.2.2.2.1 (z ▸ m1)) (fun m1 => nd.1.2.2.2.2 (z ▸ m1)), fun z => m1.elim (fun m1 => nd.2.1.2.2.1 (z ▸ m1)) (fun m1 => nd.2.1.2.2.2 (z ▸ m1))⟩
    · simp only [List.mem_cons, List.not_mem_nil, or_false, not_or]
      exact ⟨fun z => m2.elim (fun m1 => nd.1.2.2.2.1 (z ▸ m1)) (fun m1 => nd.1.2.2.2.2 (z ▸ m1)), fun z => m2.elim (fun m1 => nd.2.1.2.2.1 (z ▸ m1)) (fun m1 => nd.2.1.2.2.2 (z ▸ m1))⟩
  refine ⟨?_, ?_, ?_, hf, hb, ?_, ?_, fun x hx => ent x (L.hps x hx) (.inl (mem_own.mpr ⟨x, hx, .inl rfl⟩)) (.inl (mem_own.mpr ⟨x, hx, .inr rfl⟩)), fun x hx => ent x (L.hfs x hx) (.inr (mem_own.mpr ⟨x, hx, .inl rfl⟩)) (.inr (mem_own.mpr ⟨x, hx, .inr rfl⟩)), L.ep, L.ef, L.nd, L.fr⟩
  · intro a o q
    refine kp a o ?_ (L.ex _ _ q)
    simp only [List.mem_cons, List.not_mem_nil, or_false, not_or]
    refine And.intro (fun z => ?_) (fun z => ?_)
    · have := L.fr lf (by simp)
      rw [← z, q] at this
      cases this
    · have := L.fr lb (by simp)
      rw [← z, q] at this
      cases this
  · exact kp _ _ (by simp [n1.1.symm, n2.1.symm]) L.hp
  · exact kp _ _ (by simp [n1.2.symm, n2.2.symm]) L.hc
  · exact kp _ _ (by simp only [List.mem_cons, List.not_mem_nil, or_false, not_or]; exact ⟨fun z => nd.1.2.1 z.symm, fun z => nd.2.1.1 z.symm⟩) L.he
  · exact kp _ _ (by simp only [List.mem_cons, List.not_mem_nil, or_false, not_or]; exact ⟨fun z => nd.1.2.2.1 z.symm, fun z => nd.2.1.2.1 z.symm⟩) L.hl
/-- other sets behind -/
theorem Lay.sets (L : Lay C CC H0 H p d dx c dc lf lb le ll ps fs) {k : Nat} (hp : H1 p = some (.ins C dx (pF d.now.term k d.now.grades d.now.first lf lb c))) (kp : Kp [p] H H1) :
    Lay C CC H0 H1 p ⟨{ d.now with behind := k }, d.past, d.future⟩ dx c dc lf lb le ll ps fs := by
  have ls : ∀ a ∈ lf :: lb :: le :: ll :: (own ps ++ own fs), a ∉ [p] := fun a h => by simp [(L.nls h).1]
  have ent : ∀ x : Ent × Book, EntAt H x.1 x.2 → x.1.lf ∈ own ps ++ own fs → x.1.lb ∈ own ps ++ own fs → EntAt H1 x.1 x.2 := fun x q m1 m2 => q.kp kp (by simp [q.ne_i L.hp]) (ls _ (by simp only [List.mem_cons, m1, or_true])) (ls _ (by simp only [List.mem_cons, m2, or_true]))
  refine ⟨?_, hp, ?_, kp _ _ (ls _ (by simp)) L.hf, kp _ _ (ls _ (by simp)) L.hb, kp _ _ (ls _ (by simp)) L.he, kp _ _ (ls _ (by simp)) L.hl, fun x hx => ent x (L.hps x hx) (List.mem_append_left _ (mem_own.mpr ⟨x, hx, .inl rfl⟩)) (List.mem_append_left _ (mem_own.mpr ⟨x, hx, .inr rfl⟩)), fun x hx => ent x (L.hfs x hx) (List.mem_append_right _ (mem_own.mpr ⟨x, hx, .inl rfl⟩)) (List.mem_append_right _ (mem_own.mpr ⟨x, hx, .inr rfl⟩)), L.ep, L.ef, L.nd, L.fr⟩
  · intro a o q
    refine kp a o ?_ (L.ex _ _ q)
    simp only [List.mem_cons, List.not_mem_nil, or_false]
    intro z
    have := L.fr p (by simp)
    rw [← z, q] at this
    cases this
  · exact kp _ _ (by simp [L.npc.symm]) L.hc
end
end Fs
namespace Fs
open PySem PySem.Spec PyProof.Rows L2 Evl
open Km495 (Book Desk Man)
section
variable {C CC p : Addr} {H0 H H1 H2 H3 : Hp} {d : Desk} {dx c dc lf lb le ll : Addr} {ps fs ps2 fs2 : List (Ent × Book)}
/-- another standing is taken up, and the one that stood is kept -/
theorem Lay.turn (L : Lay C CC H0 H p d dx c dc lf lb le ll ps fs) {e : Ent} {x : Ent × Book} (hlf : H e.lf = none) (hlb : H e.lb = none) (e1 : Ex H H1) (he : EntAt H1 e d.now)
    (hx : x ∈ ps ++ fs) (k : Kin x.2 d.now) (mem1 : ∀ y ∈ ps2, y = (e, d.now) ∨ y ∈ ps ++ fs) (mem2 : ∀ y ∈ fs2, y = (e, d.now) ∨ y ∈ ps ++ fs) (nd2 : (x.1.lf :: x.1.lb :: le :: ll :: (own ps2 ++ own fs2)).Nodup)
    (h2e : H2 le = some (.lst (ps2.reverse.map entV))) (h2l : H2 ll = some (.lst (fs2.reverse.map entV))) (kp2 : Kp [le, ll] H1 H2)
    (h3p : H3 p = some (.ins C dx (pF d.now.term x.2.behind d.now.grades d.now.first x.1.lf x.1.lb c))) (kp3 : Kp [p] H2 H3) :
    Lay C CC H0 H3 p ⟨x.2, ps2.map (·.2), fs2.map (·.2)⟩ dx c dc x.1.lf x.1.lb le ll ps2 fs2 := by
  have tr := L.trk
  have nd := L.nd
  simp only [List.nodup_cons, List.mem_cons, List.mem_append, not_or] at nd
  have nde := nd2
  simp only [List.nodup_cons, List.mem_cons, List.mem_append, not_or] at nde
  have neP := L.npc
  have n3 := L.nls (a := le) (by simp)
  have n4 := L.nls (a := ll) (by simp)
  have kp : Kp [le, ll, p] H1 H3 := (kp2.sub (by simp)).trans (kp3.sub (by simp))
  have old : ∀ y ∈ ps ++ fs, EntAt H1 y.1 y.2 ∧ y.1.lf ∈ own ps ++ own fs ∧ y.1.lb ∈ own ps ++ own fs := fun y hy => by
    rcases (List.mem_append.mp hy) with hy | hy
    · exact ⟨(L.hps y hy).same e1, List.mem_append_left _ (mem_own.mpr ⟨y, hy, .inl rfl⟩), List.mem_append_left _ (mem_own.mpr ⟨y, hy, .inr rfl⟩)⟩
    · exact ⟨(L.hfs y hy).same e1, List.mem_append_right _ (mem_own.mpr ⟨y, hy, .inl rfl⟩), List.mem_append_right _ (mem_own.mpr ⟨y, hy, .inr rfl⟩)⟩
  have off : ∀ a ∈ own ps ++ own fs, a ∉ [le, ll, p] := fun a ha => by
    have z := L.nls (a := a) (by simp only [List.mem_cons, ha, or_true])
    rw [List.mem_append] at ha
    simp only [List.mem_cons, List.not_mem_nil, or_false, not_or]
    exact ⟨fun q => ha.elim (fun ha => nd.2.2.1.2.1 (q ▸ ha)) (fun ha => nd.2.2.1.2.2 (q ▸ ha)), fun q => ha.elim (fun ha => nd.2.2.2.1.1 (q ▸ ha)) (fun ha => nd.2.2.2.1.2 (q ▸ ha)), z.1⟩
  have offe : ∀ a, H a = none → a ∉ [le, ll, p] := fun a ha => by
    simp only [List.mem_cons, List.not_mem_nil, or_false, not_or]
    refine ⟨fun q => ?_, fun q => ?_, fun q => ?_⟩
    · rw [q, L.he] at ha; cases ha
    · rw [q, L.hl] at ha; cases ha
    · rw [q, L.hp] at ha; cases ha
  have tup : ∀ {y : Ent} {b : Book}, EntAt H1 y b → y.a ∉ [le, ll, p] := fun q => by
    simp [q.ne_l (e1 _ _ L.he), q.ne_l (e1 _ _ L.hl), q.ne_i (e1 _ _ L.hp)]
  have ent : ∀ y, y = (e, d.now) ∨ y ∈ ps ++ fs → EntAt H3 y.1 y.2 := fun y hy => by
    rcases hy with rfl | hy
    · exact he.kp kp (tup he) (offe _ hlf) (offe _ hlb)
    · have q := old y hy
      exact q.1.kp kp (tup q.1) (off _ q.2.1) (off _ q.2.2)
  have hx3 := ent x (.inr hx)
  have h0 : ∀ a, H a = none → H0 a = none := fun a h => fresh_back L.ex h
  have fro : ∀ y, y = (e, d.now) ∨ y ∈ ps ++ fs → H0 y.1.lf = none ∧ H0 y.1.lb = none := fun y hy => by
    rcases hy with rfl | hy
    · exact ⟨h0 _ hlf, h0 _ hlb⟩
    · have q := old y hy
      exact ⟨L.fr _ (by simp only [List.mem_cons, q.2.1, or_true]), L.fr _ (by simp only [List.mem_cons, q.2.2, or_true])⟩
  refine ⟨?_, ?_, ?_, hx3.2.1, hx3.2.2, ?_, ?_, fun y hy => ent y (mem1 y hy), fun y hy => ent y (mem2 y hy), rfl, rfl, nd2, ?_⟩
  · intro a o q
    refine kp a o ?_ (e1 _ _ (L.ex _ _ q))
    simp only [List.mem_cons, List.not_mem_nil, or_false, not_or]
    refine ⟨fun z => ?_, fun z => ?_, fun z => ?_⟩
    · have := L.fr le (by simp)
      rw [← z, q] at this
      cases this
    · have := L.fr ll (by simp)
      rw [← z, q] at this
      cases this
    · have := L.fr p (by simp)
      rw [← z, q] at this
      cases this
  · rw [h3p, ← k.t, ← k.g, ← k.f]
  · exact kp _ _ (by simp [n3.2.symm, n4.2.symm, neP.symm]) (e1 _ _ L.hc)
  · exact kp3 _ _ (by simp [n3.1]) h2e
  · exact kp3 _ _ (by simp [n4.1]) h2l
  · intro a ha
    simp only [List.mem_cons, List.mem_append] at ha
    have f1 := fro x (.inr hx)
    rcases ha with rfl | rfl | rfl | rfl | rfl | rfl | ha | ha
    · exact L.fr _ (by simp)
    · exact L.fr _ (by simp)
    · exact f1.1
    · exact f1.2
    · exact L.fr _ (by simp)
    · exact L.fr _ (by simp)
    · obtain ⟨y, hy, rfl | rfl⟩ := mem_own.mp ha
      · exact (fro y (mem1 y hy)).1
      · exact (fro y (mem1 y hy)).2
    · obtain ⟨y, hy, rfl | rfl⟩ := mem_own.mp ha
      · exact (fro y (mem2 y hy)).1
      · exact (fro y (mem2 y hy)).2
theorem Lay.apart (L : Lay C CC H0 H p d dx c dc lf lb le ll ps fs) {a : Addr} (h : H a = none) : a ∉ lf :: lb :: le :: ll :: (own ps ++ own fs) := fun z => by
  obtain ⟨xs, q⟩ := L.trk a z
  rw [q] at h
  cases h
theorem nd_back {x : Ent × Book} {e : Ent} {b : Book} {ps' : List (Ent × Book)} (nd : (lf :: lb :: le :: ll :: (own (x :: ps') ++ own fs)).Nodup) (h1 : e.lf ∉ lf :: lb :: le :: ll :: (own (x :: ps') ++ own fs)) (h2 : e.lb ∉ lf :: lb :: le :: ll :: (own (x :: ps') ++ own fs)) (h3 : e.lf ≠ e.lb) :
    (x.1.lf :: x.1.lb :: le :: ll :: (own ps' ++ own ((e, b) :: fs))).Nodup := by
  rw [own_cons] at nd h1 h2 ⊢
  have P : (x.1.lf :: x.1.lb :: le :: ll :: (own ps' ++ e.lf :: e.lb :: own fs)).Perm (e.lf :: e.lb :: (le :: ll :: (x.1.lf :: x.1.lb :: own ps' ++ own fs))) := by
    refine List.perm_iff_count.mpr fun a => ?_
    simp only [List.count_cons, List.count_append, List.cons_append]
    omega
  refine P.nodup_iff.mpr ?_
  have S : (le :: ll :: (x.1.lf :: x.1.lb :: own ps' ++ own fs)).Nodup := (List.nodup_cons.mp (List.nodup_cons.mp nd).2).2
  have q1 : e.lf ∉ (le :: ll :: (x.1.lf :: x.1.lb :: own ps' ++ own fs)) := fun z => h1 (.tail _ (.tail _ z))
  have q2 : e.lb ∉ (le :: ll :: (x.1.lf :: x.1.lb :: own ps' ++ own fs)) := fun z => h2 (.tail _ (.tail _ z))
  refine List.nodup_cons.mpr ⟨fun z => ?_, List.nodup_cons.mpr ⟨q2, S⟩⟩
  rcases (List.mem_cons.mp z) with z | z
  · exact h3 z
  · exact q1 z
theorem nd_again {x : Ent × Book} {e : Ent} {b : Book} {fs' : List (Ent × Book)} (nd : (lf :: lb :: le :: ll :: (own ps ++ own (x :: fs'))).Nodup) (h1 : e.lf ∉ lf :: lb :: le :: ll :: (own ps ++ own (x :: fs'))) (h2 : e.lb ∉ lf :: lb :: le :: ll :: (own ps ++ own (x :: fs'))) (h3 : e.lf ≠ e.lb) :
    (x.1.lf :: x.1.lb :: le :: ll :: (own ((e, b) :: ps) ++ own fs')).Nodup := by
  rw [own_cons] at nd h1 h2 ⊢
  have P : (x.1.lf :: x.1.lb :: le :: ll :: (e.lf :: e.lb :: own ps ++ own fs')).Perm (e.lf :: e.lb :: (le :: ll :: (own ps ++ x.1.lf :: x.1.lb :: own fs'))) := by
    refine List.perm_iff_count.mpr fun a => ?_
    simp only [List.count_cons, List.count_append, List.cons_append]
    omega
  refine P.nodup_iff.mpr ?_
  have S : (le :: ll :: (own ps ++ x.1.lf :: x.1.lb :: own fs')).Nodup := (List.nodup_cons.mp (List.nodup_cons.mp nd).2).2
  have q1 : e.lf ∉ (le :: ll :: (own ps ++ x.1.lf :: x.1.lb :: own fs')) := fun z => h1 (.tail _ (.tail _ z))
  have q2 : e.lb ∉ (le :: ll :: (own ps ++ x.1.lf :: x.1.lb :: own fs')) := fun z => h2 (.tail _ (.tail _ z))
  refine List.nodup_cons.mpr ⟨fun z => ?_, List.nodup_cons.mpr ⟨q2, S⟩⟩
  rcases (List.mem_cons.mp z) with z | z
  · exact h3 z
  · exact q1 z
end
end Fs
namespace Fs
open PySem PySem.Spec PyProof.Rows L2 Evl
open Km495 (Book Desk Man)

section
variable {K : PySem.W.Frag} {mg : Str → Option Value} {C CC p : Addr} {gs : List Addr} {σ : L2.St} {H0 H H' : Hp} {ta te : TE} {v : V} {D : Ends} {tz : TS} {E E' : XK} {d : Desk} {dx c dc lf lb le ll : Addr} {ps fs : List (Ent × Book)}
theorem s_setNew {a dx : Addr} {fs : List (Str × V)} {f : Str} (ho : ∀ H1, Ev ta σ H1 (.ref a)) (h : H a = some (.ins C dx fs)) (cl : Cls K C) (na : NoAttr K C f) (hl : fs.length < 1000)
    (k : ∀ (c dc e l : Addr) (H1 : Hp), H c = none → H e = none → H l = none → e ≠ l → Ex H H1 → H1 c = some (.ins CC dc (cF e l)) → H1 e = some (.lst []) → H1 l = some (.lst []) → D.nx σ (upd H1 a (.ins C dx (putF f (.ref c) fs)))) :
    sFld K ta (tMake CC (spCInit CC) [] E tNil) f D σ H := by
  intro x dcx nx nd ne
  refine ⟨x, dcx, rfl, upd_same, fun e l H1 he hl' hel hx h1 h2 kp dm => ⟨rfl, ?_⟩⟩
  have ex : Ex H H1 := fun b o q => kp b o (by simp [ne_of_none q nx]) (by rw [upd_ne (ne_of_none q nx), upd_ne (ne_of_none q nd)]; exact q)
  have dm0 : ∀ b, (upd (upd H dcx (.own x)) x (.ins CC dcx [])) b = none → H b = none := fun b q => ((Dm.ex (Ex.refl H)).upd.upd) b q
  exact ho H1 H1 (Ex.refl H1) _ fun H2 e2 => ⟨a, C, dx, fs, rfl, e2 _ _ (ex _ _ h), cl, na, hl, k x dcx e l H2 nx (dm0 _ he) (dm0 _ hl') hel (ex.trans e2) (e2 _ _ hx) (e2 _ _ h1) (e2 _ _ h2)⟩
theorem c_ev {tr : TA} {QA : List V → Hp → Prop} (h : Ev te σ H v) (k : ∀ H1, Ex H H1 → tr σ H1 (fun xs H2 => QA (v :: xs) H2)) : tCons te tr σ H QA := h H (Ex.refl H) _ fun H1 e1 => k H1 e1
theorem c_evL {tr : TA} {QA : List V → Hp → Prop} {xs : List V} (h : EvL te σ H xs) (k : ∀ p H1, H p = none → Ex H H1 → H1 p = some (.lst xs) → tr σ H1 (fun ys H2 => QA (.ref p :: ys) H2)) : tCons te tr σ H QA := h H (Ex.refl H) _ fun p H1 hp e1 h1 => k p H1 hp e1 h1
theorem s_retT {tA : TA} (h : tA σ H (fun xs H1 => xs.length ≤ sizeLine ∧ ∀ p, H1 p = none → D.rt (.ref p) (upd H1 p (.tup xs)))) : tRet (tTup tA) D σ H := h
theorem m_open {to : TE} {tA : TA} {a dx : Addr} {fs : List (Str × V)} {m : Str} {sp : Sp} {QV : VK} (h : Ev to σ H (.ref a)) (ho : H a = some (.ins C dx fs)) (nm : fs.lookup m = none) (k : ∀ H1, Ex H H1 → tA σ H1 fun vs H2 => sp (.ref a :: (vs ++ [])) H2 QV E) : tMeth C m sp [] E to tA σ H QV :=
  h H (Ex.refl H) _ fun H1 e1 => ⟨a, dx, fs, rfl, e1 _ _ ho, nm, k H1 e1⟩
theorem s_drop0 {te : TE} (h : te σ H (fun _ H1 => D.nx σ H1)) : tDrop te D σ H := h
theorem q_drop0 {te : TE} (h : te σ H (fun _ H1 => tz D σ H1)) : tSeq (tDrop te) tz D σ H := h
theorem c_raw {te : TE} {tr : TA} {QA : List V → Hp → Prop} (h : te σ H (fun x H1 => tr σ H1 (fun xs H2 => QA (x :: xs) H2))) : tCons te tr σ H QA := h
theorem q_note (T : Txt K mg C CC gs) (L : Lay C CC H0 H p d dx c dc lf lb le ll ps fs) (h0 : σ[0]? = some (some (.ref p))) (hn : ps.length ≤ 20)
    (k : ∀ (l : Addr) (H3 : Hp) (ps' : List (Ent × Book)), Lay C CC H0 H3 p ⟨d.now, (d.now :: d.past).take 20, []⟩ dx c dc lf lb le l ps' [] → tz D σ H3) :
    tSeq (tDrop (tMeth CC "note" (spNote CC) [] E (tFld K (tVar 0) "changes") (tCons (tMeth C "standing" (spStanding C) [] E' (tVar 0) tNil) tNil))) tz D σ H := by
  refine q_drop0 (m_open (ev_fld (ev_var h0) L.hp T.cl T.n_changes pF_changes) L.hc (cF_no (by decide +kernel)) (fun H1 e1 => ?_))
  refine ⟨_, h0, p, dx, _, rfl, e1 _ _ L.hp, pF_no (by decide +kernel), p, d.now, rfl, ⟨dx, lf, lb, c, e1 _ _ L.hp, e1 _ _ L.hf, e1 _ _ L.hb⟩, fun e H2 ha hlf hlb hne e2 he => ?_⟩
  refine ⟨c, dc, le, ll, _, .ref e.a, rfl, (e1.trans e2) _ _ L.hc, (e1.trans e2) _ _ L.he, by rw [List.length_map, List.length_reverse]; omega, fun l H3 hl hc3 he3 hl3 kp dm => ?_⟩
  exact k l H3 _ (L.noted hn (fresh_back e1 ha) (fresh_back e1 hlf) (fresh_back e1 hlb) hne (e1.trans e2) he hl hc3 he3 hl3 kp)
/-- a book begun -/
theorem begun {H4 H5 H6 H7 : Hp} {a1 a2 c' dc' e' l' : Addr} {xs1 xs2 : List V} {o4 o5 o6 : HO} {b : Book} (ex : Ex H0 H) (hp0 : H0 p = none) (kp : Kp [p] H H4) (dm : Dm H H4) (n1 : upd H4 p o4 a1 = none) (e5 : Ex (upd H4 p o4) H5) (h5 : H5 a1 = some (.lst xs1))
    (n2 : upd H5 p o5 a2 = none) (e6 : Ex (upd H5 p o5) H6) (h6 : H6 a2 = some (.lst xs2)) (nc : upd H6 p o6 c' = none) (ne : upd H6 p o6 e' = none) (nl : upd H6 p o6 l' = none) (hel : e' ≠ l') (e7 : Ex (upd H6 p o6) H7)
    (hc7 : H7 c' = some (.ins CC dc' (cF e' l'))) (he7 : H7 e' = some (.lst [])) (hl7 : H7 l' = some (.lst [])) (x1 : xs1 = fV b) (x2 : xs2 = bV b) :
    DeskAt C CC H0 (upd H7 p (.ins C dx (pF b.term b.behind b.grades b.first a1 a2 c'))) p ⟨b, [], []⟩ := by
  subst x1 x2
  have off : ∀ {X : Hp} {o : HO} {a : Addr}, upd X p o a = none → a ≠ p := fun q z => by
    rw [z, upd_same] at q
    cases q
  have p1 := off n1
  have p2 := off n2
  have pc := off nc
  have pe := off ne
  have pl := off nl
  have k6 : ∀ {a : Addr} {o : HO}, a ≠ p → H6 a = some o → H7 a = some o := fun ha q => e7 _ _ (by rw [upd_ne ha]; exact q)
  have k5 : ∀ {a : Addr} {o : HO}, a ≠ p → H5 a = some o → H6 a = some o := fun ha q => e6 _ _ (by rw [upd_ne ha]; exact q)
  have a16 := k5 p1 h5
  have dm5 : Dm H H5 := (dm.upd).trans (Dm.ex e5)
  have dm6 : Dm H H6 := (dm5.upd).trans (Dm.ex e6)
  have d21 : a2 ≠ a1 := fun z => by
    rw [z, upd_ne p1, h5] at n2
    cases n2
  have un : ∀ {a b : Addr} {o : HO}, b ≠ p → H6 b = some o → upd H6 p o6 a = none → a ≠ b := fun hb q n z => by
    rw [z, upd_ne hb, q] at n
    cases n
  have f0 : ∀ {a : Addr}, H a = none → H0 a = none := fun q => fresh_back ex q
  have g6 : ∀ {a : Addr}, upd H6 p o6 a = none → H0 a = none := fun q => f0 ((dm6.upd) _ q)
  refine ⟨dx, c', dc', a1, a2, e', l', [], [], ?_, upd_same, ?_, ?_, ?_, ?_, ?_, (fun x hx => by cases hx), (fun x hx => by cases hx), rfl, rfl, ?_, ?_⟩
  · intro a o q
    have ap : a ≠ p := fun z => by
      rw [z, hp0] at q
      cases q
    rw [upd_ne ap]
    refine k6 ap (k5 ap (e5 _ _ ?_))
    rw [upd_ne ap]
    exact kp _ _ (by simp [ap]) (ex _ _ q)
  · rw [upd_ne pc]; exact hc7
  · rw [upd_ne p1]; exact k6 p1 a16
  · rw [upd_ne p2]; exact k6 p2 h6
  · rw [upd_ne pe]; exact he7
  · rw [upd_ne pl]; exact hl7
  · have q : own ([] : List (Ent × Book)) = [] := rfl
    rw [q, List.append_nil]
    simp only [List.nodup_cons, List.mem_cons, List.not_mem_nil, or_false, not_or, not_false_eq_true, and_true, List.nodup_nil]
    exact ⟨⟨d21.symm, (un p1 a16 ne).symm, (un p1 a16 nl).symm⟩, ⟨(un p2 h6 ne).symm, (un p2 h6 nl).symm⟩, hel⟩
  · intro a ha
    have q : own ([] : List (Ent × Book)) = [] := rfl
    rw [q, List.append_nil] at ha
    simp only [List.mem_cons, List.not_mem_nil, or_false] at ha
    rcases ha with rfl | rfl | rfl | rfl | rfl | rfl
    · exact hp0
    · exact g6 nc
    · exact f0 ((dm.upd) _ n1)
    · exact f0 ((dm5.upd) _ n2)
    · exact g6 ne
    · exact g6 nl
theorem map_snd {ps : List (Ent × Book)} {b : Book} {r : List Book} (h : b :: r = ps.map (·.2)) : ∃ (e : Ent) (ps' : List (Ent × Book)), ps = (e, b) :: ps' ∧ r = ps'.map (·.2) := by
  cases ps with
  | nil => cases h
  | cons x ps' =>
    rw [List.map_cons] at h
    injection h with h1 h2
    exact ⟨x.1, ps', by rw [h1], h2⟩
end
section
variable {P : Program} {w : World} {K : PySem.W.Frag} {mg : Str → Option Value} {base : Heap} {C CC : Addr} {fs : List Addr}
abbrev N_c_init : List Str := ["self"]
theorem sc_c_init : FnScope N_c_init ["self"] (defScope s_c_init) := ⟨rfl, rfl, rfl, by decide +kernel, rfl, by decide +kernel, by decide +kernel⟩
theorem ok_c_init {f : Addr} {fd : FuncData} (F : Fun K "__init__" "Changes.__init__" s_c_init f fd) (T : Txt K mg C CC fs) : FnOk P w K mg base CX0 1 f fd ["self"] (spCInit CC) := by
  refine F.ok sc_c_init (fun vs H Q E h => ?_) (fun cdv A outer s H vs Q E hr h => ?_)
  · obtain ⟨p, dx, rfl, _⟩ := h
    rfl
  · obtain ⟨p, dx, rfl, hp, k⟩ := h
    refine ⟨_, (pss_cons (ps_fld (pv 0) (pe_lst pa_nil) rfl)
      (pss_one (ps_fld (pv 0) (pe_lst pa_nil) rfl))), ?_⟩
    refine q_setFL (el_lst ea_nil (by show 0 ≤ 100000; decide)) (ev_var rfl) hp T.cc T.n_earlier (by show 0 < 1000; decide) (fun e H1 he e1 h1 => ?_)
    have npe : e ≠ p := (ne_of_none hp he).symm
    refine s_setFL (el_lst ea_nil (by show 0 ≤ 100000; decide)) (ev_var rfl) upd_same T.cc T.n_later (by show 1 < 1000; decide) (fun l H2 hl e2 h2 => ?_)
    have nlp : l ≠ p := fun z => by
      rw [z, upd_same] at hl
      cases hl
    have hl1 : H1 l = none := by
      rw [upd_ne nlp] at hl
      exact hl
    have nel : e ≠ l := fun z => by
      rw [← z, h1] at hl1
      cases hl1
    rw [cF_new]
    refine k e l _ he (fresh_back e1 hl1) nel upd_same ?_ ?_ ((((Kp.ex e1).upd (.head _)).trans (Kp.ex e2)).upd (.head _)) ((((Dm.ex e1).upd).trans (Dm.ex e2)).upd)
    · rw [upd_ne npe]
      exact e2 _ _ (by rw [upd_ne npe]; exact h1)
    · rw [upd_ne nlp]
      exact h2
abbrev N_c_note : List Str := ["self", "standing"]
theorem sc_c_note : FnScope N_c_note ["self", "standing"] (defScope s_c_note) := ⟨rfl, rfl, rfl, by decide +kernel, rfl, by decide +kernel, by decide +kernel⟩
theorem ok_c_note {f : Addr} {fd : FuncData} (F : Fun K "note" "Changes.note" s_c_note f fd) (T : Txt K mg C CC fs) : FnOk P w K mg base CX0 1 f fd ["self", "standing"] (spNote CC) := by
  refine F.ok sc_c_note (fun vs H Q E h => ?_) (fun cdv A outer s H vs Q E hr h => ?_)
  · obtain ⟨c, dc, le, ll, xs, v, rfl, _⟩ := h
    rfl
  · obtain ⟨c, dc, le, ll, xs, v, rfl, hc, he, hx, k⟩ := h
    refine ⟨_, (pss_cons (ps_expr (pe_bm PySem.F.plainAttrs_list PySem.F.slot_list_append PySem.F.type_list_append mt_append (pe_fld (pv 0) rfl) (pa_cons (pv 1) pa_nil)))
      (pss_cons (ps_if (pt_cmpR op_gt (pe_callB call_len_seq (by rfl) T.z_len PySem.boot_len (pa_cons (pe_fld (pv 0) rfl) pa_nil)) (C8.pe_gc rfl T.i_MOST_TAKEN_BACK) (nomark _)) (pss_one (ps_expr (pe_bm PySem.F.plainAttrs_list PySem.F.slot_list_pop PySem.F.type_list_pop mt_popAt (pe_fld (pv 0) rfl) (pa_cons pe_int pa_nil)))) pss_nil)
      (pss_one (ps_fld (pv 0) (pe_lst pa_nil) rfl)))), ?_⟩
    have ne : c ≠ le := ne_of hc he (by intro z; cases z)
    refine q_app (l := le) he (ev_fld (ev_var rfl) hc T.cc T.n_earlier cF_earlier) (ev_var rfl) (by omega) (fun H1 e1 => ?_)
    have hcA : upd H1 le (.lst (xs ++ [v])) c = some (.ins CC dc (cF le ll)) := by
      rw [upd_ne ne]
      exact e1 _ _ hc
    have kA : Kp [c, le] H (upd H1 le (.lst (xs ++ [v]))) := (Kp.ex e1).upd (.tail _ (.head _))
    have dA : Dm H (upd H1 le (.lst (xs ++ [v]))) := (Dm.ex e1).upd
    -- the end: self.later = []
    have fin : ∀ (H3 : Hp), H3 c = some (.ins CC dc (cF le ll)) → H3 le = some (.lst (noted xs v)) → Kp [c, le] H H3 → Dm H H3 →
        sFld K (tVar 0) (tLst tNil) "later" { nx := fun _ H' => Q .non H', rt := Q } [some (.ref c), some v] H3 := fun H3 h3c h3e k3 d3 => by
      refine s_setFL (el_lst ea_nil (by show 0 ≤ 100000; decide)) (ev_var rfl) h3c T.cc T.n_later cF_len (fun l H4 hl e4 h4 => ?_)
      have nlc : l ≠ c := (ne_of_none h3c hl).symm
      rw [put_later]
      refine k l _ (d3 _ hl) upd_same ?_ ?_ ((k3.trans (Kp.ex e4)).upd (.head _)) ((d3.trans (Dm.ex e4)).upd)
      · rw [upd_ne ne.symm]
        exact e4 _ _ h3e
      · rw [upd_ne nlc]
        exact h4
    refine q_when (et_test (ev_op (ev_len (ev_fld (ev_var rfl) hcA T.cc T.n_earlier cF_earlier) (sq_of upd_same)) ev_c rv_I0)) (fun hb H2 e2 => ?_) (fun hb H2 e2 => ?_)
    · have c20 : 20 < xs.length + 1 := by
        have := of_decide_eq_true hb
        rw [List.length_append, List.length_singleton] at this
        omega
      obtain ⟨y, ys, hy⟩ : ∃ y ys, xs ++ [v] = y :: ys := by
        cases xs with
        | nil => exact ⟨v, [], rfl⟩
        | cons y ys => exact ⟨y, ys ++ [v], rfl⟩
      have hn : noted xs v = ys := by
        unfold noted
        rw [if_pos c20, hy]
        rfl
      have h2e : H2 le = some (.lst (y :: ys)) := by
        rw [← hy]
        exact e2 _ _ upd_same
      refine s_pop0 (l := le) h2e (ev_fld (ev_var rfl) (e2 _ _ hcA) T.cc T.n_earlier cF_earlier) ev_c (fun H3 e3 => ?_)
      exact fin _ (by rw [upd_ne ne]; exact e3 _ _ (e2 _ _ hcA)) (by rw [upd_same, hn]) (((kA.trans (Kp.ex e2)).trans (Kp.ex e3)).upd (.tail _ (.head _))) (((dA.trans (Dm.ex e2)).trans (Dm.ex e3)).upd)
    · have c20 : ¬ 20 < xs.length + 1 := by
        have := of_decide_eq_false hb
        rw [List.length_append, List.length_singleton] at this
        omega
      have hn : noted xs v = xs ++ [v] := by
        unfold noted
        rw [if_neg c20]
      exact fin H2 (e2 _ _ hcA) (by rw [hn]; exact e2 _ _ upd_same) (kA.trans (Kp.ex e2)) (dA.trans (Dm.ex e2))
abbrev N_c_step_back : List Str := ["self", "standing"]
theorem sc_c_step_back : FnScope N_c_step_back ["self", "standing"] (defScope s_c_step_back) := ⟨rfl, rfl, rfl, by decide +kernel, rfl, by decide +kernel, by decide +kernel⟩
theorem ok_c_step_back {f : Addr} {fd : FuncData} (F : Fun K "step_back" "Changes.step_back" s_c_step_back f fd) (T : Txt K mg C CC fs) : FnOk P w K mg base CX0 1 f fd ["self", "standing"] (spStepBack CC) := by
  refine F.ok sc_c_step_back (fun vs H Q E h => ?_) (fun cdv A outer s H vs Q E hr h => ?_)
  · obtain ⟨c, dc, le, ll, xs, ys, v, z, rfl, _⟩ := h
    rfl
  · obtain ⟨c, dc, le, ll, xs, ys, v, z, rfl, hc, he, hl, nel, hlen, k⟩ := h
    refine ⟨_, (pss_cons (ps_expr (pe_bm PySem.F.plainAttrs_list PySem.F.slot_list_append PySem.F.type_list_append mt_append (pe_fld (pv 0) rfl) (pa_cons (pv 1) pa_nil)))
      (pss_one (ps_ret (pe_bm0 PySem.F.plainAttrs_list PySem.F.slot_list_pop PySem.F.type_list_pop mt_pop (pe_fld (pv 0) rfl))))), ?_⟩
    have nA : c ≠ ll := ne_of hc hl (by intro z; cases z)
    refine q_app (l := ll) hl (ev_fld (ev_var rfl) hc T.cc T.n_later cF_later) (ev_var rfl) (by omega) (fun H1 e1 => ?_)
    have hc1 : upd H1 ll (.lst (ys ++ [v])) c = some (.ins CC dc (cF le ll)) := by
      rw [upd_ne nA]
      exact e1 _ _ hc
    refine s_retPop (l := le) (by rw [upd_ne nel]; exact e1 _ _ he) (ev_fld (ev_var rfl) hc1 T.cc T.n_earlier cF_earlier) (fun H2 e2 => ?_)
    exact k _ upd_same (by rw [upd_ne nel.symm]; exact e2 _ _ upd_same) ((((Kp.ex e1).upd (.tail _ (.head _))).trans (Kp.ex e2)).upd (.head _)) ((((Dm.ex e1).upd).trans (Dm.ex e2)).upd)
abbrev N_c_step_on : List Str := ["self", "standing"]
theorem sc_c_step_on : FnScope N_c_step_on ["self", "standing"] (defScope s_c_step_on) := ⟨rfl, rfl, rfl, by decide +kernel, rfl, by decide +kernel, by decide +kernel⟩
theorem ok_c_step_on {f : Addr} {fd : FuncData} (F : Fun K "step_on" "Changes.step_on" s_c_step_on f fd) (T : Txt K mg C CC fs) : FnOk P w K mg base CX0 1 f fd ["self", "standing"] (spStepOn CC) := by
  refine F.ok sc_c_step_on (fun vs H Q E h => ?_) (fun cdv A outer s H vs Q E hr h => ?_)
  · obtain ⟨c, dc, le, ll, xs, ys, v, z, rfl, _⟩ := h
    rfl
  · obtain ⟨c, dc, le, ll, xs, ys, v, z, rfl, hc, he, hl, nel, hlen, k⟩ := h
    refine ⟨_, (pss_cons (ps_expr (pe_bm PySem.F.plainAttrs_list PySem.F.slot_list_append PySem.F.type_list_append mt_append (pe_fld (pv 0) rfl) (pa_cons (pv 1) pa_nil)))
      (pss_one (ps_ret (pe_bm0 PySem.F.plainAttrs_list PySem.F.slot_list_pop PySem.F.type_list_pop mt_pop (pe_fld (pv 0) rfl))))), ?_⟩
    have nA : c ≠ le := ne_of hc he (by intro z; cases z)
    refine q_app (l := le) he (ev_fld (ev_var rfl) hc T.cc T.n_earlier cF_earlier) (ev_var rfl) (by omega) (fun H1 e1 => ?_)
    have hc1 : upd H1 le (.lst (xs ++ [v])) c = some (.ins CC dc (cF le ll)) := by
      rw [upd_ne nA]
      exact e1 _ _ hc
    refine s_retPop (l := ll) (by rw [upd_ne nel.symm]; exact e1 _ _ hl) (ev_fld (ev_var rfl) hc1 T.cc T.n_later cF_later) (fun H2 e2 => ?_)
    exact k _ (by rw [upd_ne nel]; exact e2 _ _ upd_same) upd_same ((((Kp.ex e1).upd (.head _)).trans (Kp.ex e2)).upd (.tail _ (.head _))) ((((Dm.ex e1).upd).trans (Dm.ex e2)).upd)
abbrev N_c_how_many_back : List Str := ["self"]
theorem sc_c_how_many_back : FnScope N_c_how_many_back ["self"] (defScope s_c_how_many_back) := ⟨rfl, rfl, rfl, by decide +kernel, rfl, by decide +kernel, by decide +kernel⟩
theorem ok_c_how_many_back {f : Addr} {fd : FuncData} (F : Fun K "how_many_back" "Changes.how_many_back" s_c_how_many_back f fd) (T : Txt K mg C CC fs) : FnOk P w K mg base CX0 1 f fd ["self"] (spHmb CC) := by
  refine F.ok sc_c_how_many_back (fun vs H Q E h => ?_) (fun cdv A outer s H vs Q E hr h => ?_)
  · obtain ⟨c, dc, le, ll, xs, rfl, _⟩ := h
    rfl
  · obtain ⟨c, dc, le, ll, xs, rfl, hc, he, k⟩ := h
    refine ⟨_, (pss_one (ps_ret (pe_callB call_len_seq (by rfl) T.z_len PySem.boot_len (pa_cons (pe_fld (pv 0) rfl) pa_nil)))), ?_⟩
    exact s_ret (ev_len (ev_fld (ev_var rfl) hc T.cc T.n_earlier cF_earlier) (sq_of he)) k
abbrev N_c_how_many_again : List Str := ["self"]
theorem sc_c_how_many_again : FnScope N_c_how_many_again ["self"] (defScope s_c_how_many_again) := ⟨rfl, rfl, rfl, by decide +kernel, rfl, by decide +kernel, by decide +kernel⟩
theorem ok_c_how_many_again {f : Addr} {fd : FuncData} (F : Fun K "how_many_again" "Changes.how_many_again" s_c_how_many_again f fd) (T : Txt K mg C CC fs) : FnOk P w K mg base CX0 1 f fd ["self"] (spHma CC) := by
  refine F.ok sc_c_how_many_again (fun vs H Q E h => ?_) (fun cdv A outer s H vs Q E hr h => ?_)
  · obtain ⟨c, dc, le, ll, xs, rfl, _⟩ := h
    rfl
  · obtain ⟨c, dc, le, ll, xs, rfl, hc, he, k⟩ := h
    refine ⟨_, (pss_one (ps_ret (pe_callB call_len_seq (by rfl) T.z_len PySem.boot_len (pa_cons (pe_fld (pv 0) rfl) pa_nil)))), ?_⟩
    exact s_ret (ev_len (ev_fld (ev_var rfl) hc T.cc T.n_later cF_later) (sq_of he)) k
abbrev N_p_standing : List Str := ["self"]
theorem sc_p_standing : FnScope N_p_standing ["self"] (defScope s_p_standing) := ⟨rfl, rfl, rfl, by decide +kernel, rfl, by decide +kernel, by decide +kernel⟩
theorem ok_p_standing {f : Addr} {fd : FuncData} (F : Fun K "standing" "People.standing" s_p_standing f fd) (T : Txt K mg C CC fs) : FnOk P w K mg base CX0 1 f fd ["self"] (spStanding C) := by
  refine F.ok sc_p_standing (fun vs H Q E h => ?_) (fun cdv A outer s H vs Q E hr h => ?_)
  · obtain ⟨p, b, rfl, _⟩ := h
    rfl
  · obtain ⟨p, b, rfl, R, k⟩ := h
    refine ⟨_, (pss_one (ps_ret (pe_tup (pa_cons (pe_fld (pv 0) rfl) (pa_cons (pe_callTy call_list_of (by rfl) T.z_list (by decide +kernel) (pa_cons (pe_fld (pv 0) rfl) pa_nil)) (pa_cons (pe_callTy call_list_of (by rfl) T.z_list (by decide +kernel) (pa_cons (pe_fld (pv 0) rfl) pa_nil)) pa_nil)))))), ?_⟩
    obtain ⟨dx, lf, lb, c, hp, hf, hb⟩ := id R
    refine s_retT (c_ev (ev_behind T R (ev_var rfl)) (fun H1 e1 => ?_))
    refine c_evL (el_list (K := K) (ev_fld (ev_var rfl) (e1 _ _ hp) T.cl T.n_fathers pF_fathers) (sq_of (e1 _ _ hf))) (fun l1 H2 n1 e2 h2 => ?_)
    have e12 := e1.trans e2
    refine c_evL (el_list (K := K) (ev_fld (ev_var rfl) (e12 _ _ hp) T.cl T.n_births pF_births) (sq_of (e12 _ _ hb))) (fun l2 H3 n2 e3 h3 => ?_)
    refine ⟨by show 3 ≤ sizeLine; decide, fun q hq => ?_⟩
    have e13 := e12.trans e3
    refine k ⟨q, l1, l2⟩ _ (fresh_back e13 hq) (fresh_back e1 n1) (fresh_back e12 n2) (ne_of_none h2 n2) (e13.trans (Ex.new hq)) ⟨upd_same, Ex.new hq _ _ (e3 _ _ h2), Ex.new hq _ _ h3⟩
abbrev N_p_stand_as : List Str := ["self", "standing"]
theorem sc_p_stand_as : FnScope N_p_stand_as ["self", "standing"] (defScope s_p_stand_as) := ⟨rfl, rfl, rfl, by decide +kernel, rfl, by decide +kernel, by decide +kernel⟩
theorem ok_p_stand_as {f : Addr} {fd : FuncData} (F : Fun K "stand_as" "People.stand_as" s_p_stand_as f fd) (T : Txt K mg C CC fs) : FnOk P w K mg base CX0 1 f fd ["self", "standing"] (spStandAs C) := by
  refine F.ok sc_p_stand_as (fun vs H Q E h => ?_) (fun cdv A outer s H vs Q E hr h => ?_)
  · obtain ⟨p, dx, lf, lb, c, t, k, g, f, k', e, rfl, _⟩ := h
    rfl
  · obtain ⟨p, dx, lf, lb, c, t, k, g, f, k', e, rfl, hp, he, kk⟩ := h
    refine ⟨_, (pss_cons (ps_fld (pv 0) (pe_ix ix_tup (pv 1) pe_int (fun _ _ => rfl)) rfl)
      (pss_cons (ps_fld (pv 0) (pe_ix ix_tup (pv 1) pe_int (fun _ _ => rfl)) rfl)
      (pss_one (ps_fld (pv 0) (pe_ix ix_tup (pv 1) pe_int (fun _ _ => rfl)) rfl)))), ?_⟩
    have ne : e.a ≠ p := (ne_of hp he (by intro z; cases z)).symm
    refine q_setF (ev_op (ev_var rfl) ev_c (rv_ixT (st_of he) (atI_nat (j := 0) rfl))) (ev_var rfl) hp T.cl T.n_behind pF_len (fun H1 e1 => ?_)
    rw [put_behind]
    have he1 : upd H1 p (.ins C dx (pF t k' g f lf lb c)) e.a = some (.tup [nV k', .ref e.lf, .ref e.lb]) := by
      rw [upd_ne ne]
      exact e1 _ _ he
    refine q_setF (ev_op (ev_var rfl) ev_c (rv_ixT (st_of he1) (atI_nat (j := 1) rfl))) (ev_var rfl) upd_same T.cl T.n_fathers pF_len (fun H2 e2 => ?_)
    rw [put_fathers]
    have he2 : upd H2 p (.ins C dx (pF t k' g f e.lf lb c)) e.a = some (.tup [nV k', .ref e.lf, .ref e.lb]) := by
      rw [upd_ne ne]
      exact e2 _ _ he1
    refine s_setF (ev_op (ev_var rfl) ev_c (rv_ixT (st_of he2) (atI_nat (j := 2) rfl))) (ev_var rfl) upd_same T.cl T.n_births pF_len (fun H3 e3 => ?_)
    rw [put_births]
    exact kk _ upd_same ((((((Kp.ex e1).upd (.head _)).trans (Kp.ex e2)).upd (.head _)).trans (Kp.ex e3)).upd (.head _)) ((((((Dm.ex e1).upd).trans (Dm.ex e2)).upd).trans (Dm.ex e3)).upd)
abbrev N_p_init : List Str := ["self"]
theorem sc_p_init : FnScope N_p_init ["self"] (defScope s_p_init) := ⟨rfl, rfl, rfl, by decide +kernel, rfl, by decide +kernel, by decide +kernel⟩
theorem ok_p_init {f : Addr} {fd : FuncData} (F : Fun K "__init__" "People.__init__" s_p_init f fd) (T : Txt K mg C CC fs) (k_c_init : Mak0 P w K mg base 1 "Changes" CC (spCInit CC)) : FnOk P w K mg base CX0 3 f fd ["self"] (spPInit C CC) := by
  refine F.ok sc_p_init (fun vs H Q E h => ?_) (fun cdv A outer s H vs Q E hr h => ?_)
  · obtain ⟨H0, p, dx, rfl, _⟩ := h
    rfl
  · obtain ⟨H0, p, dx, rfl, ex, hp0, hp, k⟩ := h
    refine ⟨_, (pss_cons (ps_fld (pv 0) pe_int rfl)
      (pss_cons (ps_fld (pv 0) pe_int rfl)
      (pss_cons (ps_fld (pv 0) pe_int rfl)
      (pss_cons (ps_fld (pv 0) pe_int rfl)
      (pss_cons (ps_fld (pv 0) (pe_lst pa_nil) rfl)
      (pss_cons (ps_fld (pv 0) (pe_lst pa_nil) rfl)
      (pss_one (ps_fld (pv 0) (pe_mk0 k_c_init hr (by decide) rfl) rfl)))))))), ?_⟩
    refine q_setF ev_c (ev_var rfl) hp T.cl T.n_term (by show 0 < 1000; decide) (fun H1 e1 => ?_)
    refine q_setF ev_c (ev_var rfl) upd_same T.cl T.n_behind (by show 1 < 1000; decide) (fun H2 e2 => ?_)
    have l2 : (putF "behind" (.int 0) (putF "term" (.int 0) []) : List (Str × V)) = [(("term" : Str), .int 0), ("behind", .int 0)] := (put_past (by decide +kernel)).trans rfl
    rw [l2]
    refine q_setF ev_c (ev_var rfl) upd_same T.cl T.n_grades (by show 2 < 1000; decide) (fun H3 e3 => ?_)
    have l3 : (putF "grades" (.int 0) [(("term" : Str), .int 0), ("behind", .int 0)] : List (Str × V)) = [(("term" : Str), .int 0), ("behind", .int 0), ("grades", .int 0)] := (put_past (by decide +kernel)).trans (congrArg _ ((put_past (by decide +kernel)).trans rfl))
    rw [l3]
    refine q_setF ev_c (ev_var rfl) upd_same T.cl T.n_first_year (by show 3 < 1000; decide) (fun H4 e4 => ?_)
    have l4 : (putF "first_year" (.int 0) [(("term" : Str), .int 0), ("behind", .int 0), ("grades", .int 0)] : List (Str × V)) = [(("term" : Str), .int 0), ("behind", .int 0), ("grades", .int 0), ("first_year", .int 0)] := (put_past (by decide +kernel)).trans (congrArg _ ((put_past (by decide +kernel)).trans (congrArg _ ((put_past (by decide +kernel)).trans rfl))))
    rw [l4]
    refine q_setFL (el_lst ea_nil (by show 0 ≤ 100000; decide)) (ev_var rfl) upd_same T.cl T.n_fathers (by show 4 < 1000; decide) (fun a1 H5 n1 e5 h5 => ?_)
    have l5 : (putF "fathers" (.ref a1) [(("term" : Str), .int 0), ("behind", .int 0), ("grades", .int 0), ("first_year", .int 0)] : List (Str × V)) = [(("term" : Str), .int 0), ("behind", .int 0), ("grades", .int 0), ("first_year", .int 0), ("fathers", .ref a1)] := (put_past (by decide +kernel)).trans (congrArg _ ((put_past (by decide +kernel)).trans (congrArg _ ((put_past (by decide +kernel)).trans (congrArg _ ((put_past (by decide +kernel)).trans rfl))))))
    rw [l5]
    refine q_setFL (el_lst ea_nil (by show 0 ≤ 100000; decide)) (ev_var rfl) upd_same T.cl T.n_births (by show 5 < 1000; decide) (fun a2 H6 n2 e6 h6 => ?_)
    have l6 : (putF "births" (.ref a2) [(("term" : Str), .int 0), ("behind", .int 0), ("grades", .int 0), ("first_year", .int 0), ("fathers", .ref a1)] : List (Str × V)) = [(("term" : Str), .int 0), ("behind", .int 0), ("grades", .int 0), ("first_year", .int 0), ("fathers", .ref a1), ("births", .ref a2)] := (put_past (by decide +kernel)).trans (congrArg _ ((put_past (by decide +kernel)).trans (congrArg _ ((put_past (by decide +kernel)).trans (congrArg _ ((put_past (by decide +kernel)).trans (congrArg _ ((put_past (by decide +kernel)).trans rfl))))))))
    rw [l6]
    refine s_setNew (CC := CC) (fun _ => ev_var rfl) upd_same T.cl T.n_changes (by show 6 < 1000; decide) (fun c' dc' e' l' H7 nc ne nl hel e7 hc7 he7 hl7 => ?_)
    have l7 : (putF "changes" (.ref c') [(("term" : Str), .int 0), ("behind", .int 0), ("grades", .int 0), ("first_year", .int 0), ("fathers", .ref a1), ("births", .ref a2)] : List (Str × V)) = pF 0 0 0 0 a1 a2 c' := (put_past (by decide +kernel)).trans (congrArg _ ((put_past (by decide +kernel)).trans (congrArg _ ((put_past (by decide +kernel)).trans (congrArg _ ((put_past (by decide +kernel)).trans (congrArg _ ((put_past (by decide +kernel)).trans (congrArg _ ((put_past (by decide +kernel)).trans rfl))))))))))
    rw [l7]
    have kp : Kp [p] H H4 := (((((Kp.ex e1).upd (.head _)).trans (Kp.ex e2)).upd (.head _)).trans (Kp.ex e3)).upd (.head _) |>.trans (Kp.ex e4)
    have dm : Dm H H4 := ((((((Dm.ex e1).upd).trans (Dm.ex e2)).upd).trans (Dm.ex e3)).upd).trans (Dm.ex e4)
    exact k _ (begun (b := ⟨0, 0, 0, 0, []⟩) ex hp0 kp dm n1 e5 h5 n2 e6 h6 nc ne nl hel e7 hc7 he7 hl7 rfl rfl)
abbrev N_p_begin : List Str := ["self", "term", "behind", "grades", "first_year"]
theorem sc_p_begin : FnScope N_p_begin ["self", "term", "behind", "grades", "first_year"] (defScope s_p_begin) := ⟨rfl, rfl, rfl, by decide +kernel, rfl, by decide +kernel, by decide +kernel⟩
theorem ok_p_begin {f : Addr} {fd : FuncData} (F : Fun K "begin" "People.begin" s_p_begin f fd) (T : Txt K mg C CC fs) (k_c_init : Mak0 P w K mg base 1 "Changes" CC (spCInit CC)) : FnOk P w K mg base CX0 3 f fd ["self", "term", "behind", "grades", "first_year"] (spBegin C CC) := by
  refine F.ok sc_p_begin (fun vs H Q E h => ?_) (fun cdv A outer s H vs Q E hr h => ?_)
  · obtain ⟨H0, p, d, t, k, g, f, rfl, _⟩ := h
    rfl
  · obtain ⟨H0, p, d, t, k, g, f, rfl, ⟨dx, c, dc, lf, lb, le, ll, ps, fs', L⟩, kk⟩ := h
    refine ⟨_, (pss_cons (ps_fld (pv 0) (pv 1) rfl)
      (pss_cons (ps_fld (pv 0) (pv 2) rfl)
      (pss_cons (ps_fld (pv 0) (pv 3) rfl)
      (pss_cons (ps_fld (pv 0) (pv 4) rfl)
      (pss_cons (ps_fld (pv 0) (pe_lst (pa_cons pe_int pa_nil)) rfl)
      (pss_cons (ps_fld (pv 0) (pe_lst (pa_cons pe_int pa_nil)) rfl)
      (pss_one (ps_fld (pv 0) (pe_mk0 k_c_init hr (by decide) rfl) rfl)))))))), ?_⟩
    refine q_setF (ev_var rfl) (ev_var rfl) L.hp T.cl T.n_term pF_len (fun H1 e1 => ?_)
    rw [put_term]
    refine q_setF (ev_var rfl) (ev_var rfl) upd_same T.cl T.n_behind pF_len (fun H2 e2 => ?_)
    rw [put_behind]
    refine q_setF (ev_var rfl) (ev_var rfl) upd_same T.cl T.n_grades pF_len (fun H3 e3 => ?_)
    rw [put_grades]
    refine q_setF (ev_var rfl) (ev_var rfl) upd_same T.cl T.n_first_year pF_len (fun H4 e4 => ?_)
    rw [put_first_year]
    refine q_setFL (el_lst (ea_cons ev_c ea_nil) (by show 1 ≤ 100000; decide)) (ev_var rfl) upd_same T.cl T.n_fathers pF_len (fun a1 H5 n1 e5 h5 => ?_)
    rw [put_fathers]
    refine q_setFL (el_lst (ea_cons ev_c ea_nil) (by show 1 ≤ 100000; decide)) (ev_var rfl) upd_same T.cl T.n_births pF_len (fun a2 H6 n2 e6 h6 => ?_)
    rw [put_births]
    refine s_setNew (CC := CC) (fun _ => ev_var rfl) upd_same T.cl T.n_changes pF_len (fun c' dc' e' l' H7 nc ne nl hel e7 hc7 he7 hl7 => ?_)
    rw [put_changes]
    have kp : Kp [p] H H4 := (((((Kp.ex e1).upd (.head _)).trans (Kp.ex e2)).upd (.head _)).trans (Kp.ex e3)).upd (.head _) |>.trans (Kp.ex e4)
    have dm : Dm H H4 := ((((((Dm.ex e1).upd).trans (Dm.ex e2)).upd).trans (Dm.ex e3)).upd).trans (Dm.ex e4)
    exact kk _ (begun (b := ⟨t, k, g, f, [⟨0, 0⟩]⟩) L.ex (L.fr p (by simp)) kp dm n1 e5 h5 n2 e6 h6 nc ne nl hel e7 hc7 he7 hl7 rfl rfl)
abbrev N_p_add_son : List Str := ["self", "father", "year"]
theorem sc_p_add_son : FnScope N_p_add_son ["self", "father", "year"] (defScope s_p_add_son) := ⟨rfl, rfl, rfl, by decide +kernel, rfl, by decide +kernel, by decide +kernel⟩
theorem ok_p_add_son {f : Addr} {fd : FuncData} (F : Fun K "add_son" "People.add_son" s_p_add_son f fd) (T : Txt K mg C CC fs) (m_c_note : C8.Met P w K mg base 1 CC "note" (spNote CC) []) (m_p_standing : C8.Met P w K mg base 1 C "standing" (spStanding C) []) : FnOk P w K mg base CX0 2 f fd ["self", "father", "year"] (spAddSon C CC) := by
  refine F.ok sc_p_add_son (fun vs H Q E h => ?_) (fun cdv A outer s H vs Q E hr h => ?_)
  · obtain ⟨H0, p, d, i, y, rfl, _⟩ := h
    rfl
  · obtain ⟨H0, p, d, i, y, rfl, ⟨dx, c, dc, lf, lb, le, ll, ps, fs', L⟩, hn, hpst, k⟩ := h
    refine ⟨_, (pss_cons (ps_expr (C8.pe_mt m_c_note hr (by decide) (pe_fld (pv 0) rfl) (pa_cons (C8.pe_mt0 m_p_standing hr (by decide) (pv 0)) pa_nil)))
      (pss_cons (ps_expr (pe_bm PySem.F.plainAttrs_list PySem.F.slot_list_append PySem.F.type_list_append mt_append (pe_fld (pv 0) rfl) (pa_cons (pv 1) pa_nil)))
      (pss_one (ps_expr (pe_bm PySem.F.plainAttrs_list PySem.F.slot_list_append PySem.F.type_list_append mt_append (pe_fld (pv 0) rfl) (pa_cons (pv 2) pa_nil)))))), ?_⟩
    have hn20 : ps.length ≤ 20 := by
      have q := hpst
      rw [L.ep, List.length_map] at q
      exact q
    refine q_note T L rfl hn20 (fun l H3 ps' L3 => ?_)
    have nd := L3.nd
    simp only [List.nodup_cons, List.mem_cons, List.mem_append, not_or] at nd
    have nlb : lf ≠ lb := nd.1.1
    have np := L3.nls (a := lf) (by simp)
    refine q_app (l := lf) L3.hf (ev_fld (ev_var rfl) L3.hp T.cl T.n_fathers pF_fathers) (ev_var rfl) (by rw [fV_len]; show d.now.n < 100000; omega) (fun H4 e4 => ?_)
    refine s_app (l := lb) (xs := bV d.now) (by rw [upd_ne nlb.symm]; exact e4 _ _ L3.hb) (ev_fld (ev_var rfl) (by rw [upd_ne np.1.symm]; exact e4 _ _ L3.hp) T.cl T.n_births pF_births) (ev_var rfl) (by rw [bV_len]; omega) (fun H5 e5 => ?_)
    refine k _ ⟨dx, c, dc, lf, lb, le, l, ps', [], L3.men (m := d.now.men ++ [⟨i, y⟩]) ?_ ?_ ((((Kp.ex e4).upd (.head _)).trans (Kp.ex e5)).upd (.tail _ (.head _)))⟩
    · rw [upd_ne nlb, e5 _ _ upd_same]
      show some (HO.lst (d.now.men.map _ ++ [nV i])) = some (HO.lst ((d.now.men ++ [(⟨i, y⟩ : Man)]).map _))
      rw [List.map_append]
      rfl
    · rw [upd_same]
      show some (HO.lst (d.now.men.map _ ++ [nV y])) = some (HO.lst ((d.now.men ++ [(⟨i, y⟩ : Man)]).map _))
      rw [List.map_append]
      rfl
abbrev N_p_drop_last : List Str := ["self"]
theorem sc_p_drop_last : FnScope N_p_drop_last ["self"] (defScope s_p_drop_last) := ⟨rfl, rfl, rfl, by decide +kernel, rfl, by decide +kernel, by decide +kernel⟩
theorem ok_p_drop_last {f : Addr} {fd : FuncData} (F : Fun K "drop_last" "People.drop_last" s_p_drop_last f fd) (T : Txt K mg C CC fs) (m_c_note : C8.Met P w K mg base 1 CC "note" (spNote CC) []) (m_p_standing : C8.Met P w K mg base 1 C "standing" (spStanding C) []) : FnOk P w K mg base CX0 2 f fd ["self"] (spDropLast C CC) := by
  refine F.ok sc_p_drop_last (fun vs H Q E h => ?_) (fun cdv A outer s H vs Q E hr h => ?_)
  · obtain ⟨H0, p, d, rfl, _⟩ := h
    rfl
  · obtain ⟨H0, p, d, rfl, ⟨dx, c, dc, lf, lb, le, ll, ps, fs', L⟩, hn, hpst, k⟩ := h
    refine ⟨_, (pss_cons (ps_expr (C8.pe_mt m_c_note hr (by decide) (pe_fld (pv 0) rfl) (pa_cons (C8.pe_mt0 m_p_standing hr (by decide) (pv 0)) pa_nil)))
      (pss_cons (ps_expr (pe_bm0 PySem.F.plainAttrs_list PySem.F.slot_list_pop PySem.F.type_list_pop mt_pop (pe_fld (pv 0) rfl)))
      (pss_one (ps_expr (pe_bm0 PySem.F.plainAttrs_list PySem.F.slot_list_pop PySem.F.type_list_pop mt_pop (pe_fld (pv 0) rfl)))))), ?_⟩
    have hn20 : ps.length ≤ 20 := by
      have q := hpst
      rw [L.ep, List.length_map] at q
      exact q
    refine q_note T L rfl hn20 (fun l H3 ps' L3 => ?_)
    have nd := L3.nd
    simp only [List.nodup_cons, List.mem_cons, List.mem_append, not_or] at nd
    have nlb : lf ≠ lb := nd.1.1
    have np := L3.nls (a := lf) (by simp)
    obtain ⟨ms, m, hm⟩ : ∃ ms m, d.now.men = ms ++ [m] := by
      have q : d.now.men ≠ [] := fun z => by
        have w : 1 ≤ d.now.men.length := hn
        rw [z] at w
        exact absurd w (by decide)
      exact ⟨d.now.men.dropLast, d.now.men.getLast q, (List.dropLast_concat_getLast q).symm⟩
    have hd : d.now.men.dropLast = ms := by rw [hm, List.dropLast_concat]
    have eF : fV d.now = (ms.map fun m => nV m.father) ++ [nV m.father] := by
      unfold fV
      rw [hm, List.map_append]
      rfl
    have eB : bV d.now = (ms.map fun m => nV m.born) ++ [nV m.born] := by
      unfold bV
      rw [hm, List.map_append]
      rfl
    have hf3 := L3.hf
    have hb3 := L3.hb
    have hf3' : H3 lf = some (.lst ((ms.map fun m => nV m.father) ++ [nV m.father])) := by
      rw [← eF]
      exact hf3
    have hb3' : H3 lb = some (.lst ((ms.map fun m => nV m.born) ++ [nV m.born])) := by
      rw [← eB]
      exact hb3
    refine q_pop (l := lf) hf3' (ev_fld (ev_var rfl) L3.hp T.cl T.n_fathers pF_fathers) (fun H4 e4 => ?_)
    refine s_pop (l := lb) (by rw [upd_ne nlb.symm]; exact e4 _ _ hb3') (ev_fld (ev_var rfl) (by rw [upd_ne np.1.symm]; exact e4 _ _ L3.hp) T.cl T.n_births pF_births) (fun H5 e5 => ?_)
    refine k _ ⟨dx, c, dc, lf, lb, le, l, ps', [], L3.men (m := d.now.men.dropLast) ?_ ?_ ((((Kp.ex e4).upd (.head _)).trans (Kp.ex e5)).upd (.tail _ (.head _)))⟩
    · rw [upd_ne nlb, e5 _ _ upd_same, hd]
      rfl
    · rw [upd_same, hd]
      rfl
abbrev N_p_put_behind : List Str := ["self", "sets"]
theorem sc_p_put_behind : FnScope N_p_put_behind ["self", "sets"] (defScope s_p_put_behind) := ⟨rfl, rfl, rfl, by decide +kernel, rfl, by decide +kernel, by decide +kernel⟩
theorem ok_p_put_behind {f : Addr} {fd : FuncData} (F : Fun K "put_behind" "People.put_behind" s_p_put_behind f fd) (T : Txt K mg C CC fs) (m_c_note : C8.Met P w K mg base 1 CC "note" (spNote CC) []) (m_p_standing : C8.Met P w K mg base 1 C "standing" (spStanding C) []) : FnOk P w K mg base CX0 2 f fd ["self", "sets"] (spPutBehind C CC) := by
  refine F.ok sc_p_put_behind (fun vs H Q E h => ?_) (fun cdv A outer s H vs Q E hr h => ?_)
  · obtain ⟨H0, p, d, k, rfl, _⟩ := h
    rfl
  · obtain ⟨H0, p, d, k, rfl, ⟨dx, c, dc, lf, lb, le, ll, ps, fs', L⟩, hpst, kk⟩ := h
    refine ⟨_, (pss_cons (ps_expr (C8.pe_mt m_c_note hr (by decide) (pe_fld (pv 0) rfl) (pa_cons (C8.pe_mt0 m_p_standing hr (by decide) (pv 0)) pa_nil)))
      (pss_one (ps_fld (pv 0) (pv 1) rfl))), ?_⟩
    have hn20 : ps.length ≤ 20 := by
      have q := hpst
      rw [L.ep, List.length_map] at q
      exact q
    refine q_note T L rfl hn20 (fun l H3 ps' L3 => ?_)
    refine s_setF (ev_var rfl) (ev_var rfl) L3.hp T.cl T.n_behind pF_len (fun H4 e4 => ?_)
    rw [put_behind]
    exact kk _ ⟨dx, c, dc, lf, lb, le, l, ps', [], L3.sets (k := k) upd_same ((Kp.ex e4).upd (.head _))⟩
abbrev N_p_take_back : List Str := ["self"]
theorem sc_p_take_back : FnScope N_p_take_back ["self"] (defScope s_p_take_back) := ⟨rfl, rfl, rfl, by decide +kernel, rfl, by decide +kernel, by decide +kernel⟩
theorem ok_p_take_back {f : Addr} {fd : FuncData} (F : Fun K "take_back" "People.take_back" s_p_take_back f fd) (T : Txt K mg C CC fs) (m_p_stand_as : C8.Met P w K mg base 1 C "stand_as" (spStandAs C) []) (m_c_step_back : C8.Met P w K mg base 1 CC "step_back" (spStepBack CC) []) (m_p_standing : C8.Met P w K mg base 1 C "standing" (spStanding C) []) : FnOk P w K mg base CX0 2 f fd ["self"] (spTakeBack C CC) := by
  refine F.ok sc_p_take_back (fun vs H Q E h => ?_) (fun cdv A outer s H vs Q E hr h => ?_)
  · obtain ⟨H0, p, d, b, r, rfl, _⟩ := h
    rfl
  · obtain ⟨H0, p, d, b, r, rfl, ⟨dx, c, dc, lf, lb, le, ll, ps, fs', L⟩, hpst, kin, hfl, k⟩ := h
    refine ⟨_, (pss_one (ps_expr (C8.pe_mt m_p_stand_as hr (by decide) (pv 0) (pa_cons (C8.pe_mt m_c_step_back hr (by decide) (pe_fld (pv 0) rfl) (pa_cons (C8.pe_mt0 m_p_standing hr (by decide) (pv 0)) pa_nil)) pa_nil)))), ?_⟩
    obtain ⟨x, ps', rfl, hr'⟩ := map_snd (hpst.symm.trans L.ep)
    have hfn : fs'.length ≤ 1000 := by
      have q := hfl
      rw [L.ef, List.length_map] at q
      exact q
    refine ⟨_, rfl, p, dx, _, rfl, L.hp, pF_no (by decide +kernel), ?_⟩
    refine c_raw (m_open (ev_fld (ev_var rfl) L.hp T.cl T.n_changes pF_changes) L.hc (cF_no (by decide +kernel)) (fun H1 e1 => ?_))
    refine ⟨_, rfl, p, dx, _, rfl, e1 _ _ L.hp, pF_no (by decide +kernel), p, d.now, rfl, ⟨dx, lf, lb, c, e1 _ _ L.hp, e1 _ _ L.hf, e1 _ _ L.hb⟩, fun e H2 ha hlf hlb hne e2 he => ?_⟩
    have e12 := e1.trans e2
    have nd := L.nd
    have nel : le ≠ ll := by
      simp only [List.nodup_cons, List.mem_cons, List.mem_append, not_or] at nd
      exact nd.2.2.1.1
    have np := L.nls (a := le) (by simp)
    have np2 := L.nls (a := ll) (by simp)
    have he2 : H2 le = some (.lst (ps'.reverse.map entV ++ [.ref x.a])) := by
      have q := e12 _ _ L.he
      rw [List.reverse_cons, List.map_append] at q
      exact q
    refine ⟨c, dc, le, ll, _, _, .ref e.a, .ref x.a, rfl, e12 _ _ L.hc, he2, e12 _ _ L.hl, nel, by rw [List.length_map, List.length_reverse]; exact hfn, fun H3 h3e h3l kp dm => ?_⟩
    have hx := L.hps (x, b) (.head _)
    have nx := (hx.same e12)
    refine ⟨p, dx, lf, lb, c, _, _, _, _, b.behind, x, rfl, kp _ _ (by simp [np.1.symm, np2.1.symm]) (e12 _ _ L.hp), kp _ _ (by simp [nx.ne_l he2, nx.ne_l (e12 _ _ L.hl)]) nx.1, fun H4 h4 kp4 dm4 => ?_⟩
    have L4 := L.turn (x := (x, b)) (ps2 := ps') (fs2 := (e, d.now) :: fs') (fresh_back e1 hlf) (fresh_back e1 hlb) e12 he (.head _) kin (fun y hy => .inr (.tail _ (List.mem_append_left _ hy))) (fun y hy => by
      cases hy with
      | head => exact .inl rfl
      | tail _ hy => exact .inr (List.mem_append_right _ hy)) (nd_back nd (L.apart (fresh_back e1 hlf)) (L.apart (fresh_back e1 hlb)) hne) h3e (by
      rw [h3l, List.reverse_cons, List.map_append]
      rfl) kp h4 kp4
    have e0 : d.now :: d.future = ((e, d.now) :: fs').map (·.2) := by rw [L.ef, List.map_cons]
    refine k H4 ?_
    rw [hr', e0]
    exact ⟨_, _, _, _, _, _, _, _, _, L4⟩
abbrev N_p_do_again : List Str := ["self"]
theorem sc_p_do_again : FnScope N_p_do_again ["self"] (defScope s_p_do_again) := ⟨rfl, rfl, rfl, by decide +kernel, rfl, by decide +kernel, by decide +kernel⟩
theorem ok_p_do_again {f : Addr} {fd : FuncData} (F : Fun K "do_again" "People.do_again" s_p_do_again f fd) (T : Txt K mg C CC fs) (m_p_stand_as : C8.Met P w K mg base 1 C "stand_as" (spStandAs C) []) (m_c_step_on : C8.Met P w K mg base 1 CC "step_on" (spStepOn CC) []) (m_p_standing : C8.Met P w K mg base 1 C "standing" (spStanding C) []) : FnOk P w K mg base CX0 2 f fd ["self"] (spDoAgain C CC) := by
  refine F.ok sc_p_do_again (fun vs H Q E h => ?_) (fun cdv A outer s H vs Q E hr h => ?_)
  · obtain ⟨H0, p, d, b, r, rfl, _⟩ := h
    rfl
  · obtain ⟨H0, p, d, b, r, rfl, ⟨dx, c, dc, lf, lb, le, ll, ps, fs', L⟩, hpst, kin, hfl, k⟩ := h
    refine ⟨_, (pss_one (ps_expr (C8.pe_mt m_p_stand_as hr (by decide) (pv 0) (pa_cons (C8.pe_mt m_c_step_on hr (by decide) (pe_fld (pv 0) rfl) (pa_cons (C8.pe_mt0 m_p_standing hr (by decide) (pv 0)) pa_nil)) pa_nil)))), ?_⟩
    obtain ⟨x, gs', rfl, hr'⟩ := map_snd (hpst.symm.trans L.ef)
    have hfn : ps.length ≤ 1000 := by
      have q := hfl
      rw [L.ep, List.length_map] at q
      exact q
    refine ⟨_, rfl, p, dx, _, rfl, L.hp, pF_no (by decide +kernel), ?_⟩
    refine c_raw (m_open (ev_fld (ev_var rfl) L.hp T.cl T.n_changes pF_changes) L.hc (cF_no (by decide +kernel)) (fun H1 e1 => ?_))
    refine ⟨_, rfl, p, dx, _, rfl, e1 _ _ L.hp, pF_no (by decide +kernel), p, d.now, rfl, ⟨dx, lf, lb, c, e1 _ _ L.hp, e1 _ _ L.hf, e1 _ _ L.hb⟩, fun e H2 ha hlf hlb hne e2 he => ?_⟩
    have e12 := e1.trans e2
    have nd := L.nd
    have nel : le ≠ ll := by
      simp only [List.nodup_cons, List.mem_cons, List.mem_append, not_or] at nd
      exact nd.2.2.1.1
    have np := L.nls (a := le) (by simp)
    have np2 := L.nls (a := ll) (by simp)
    have hl2 : H2 ll = some (.lst (gs'.reverse.map entV ++ [.ref x.a])) := by
      have q := e12 _ _ L.hl
      rw [List.reverse_cons, List.map_append] at q
      exact q
    refine ⟨c, dc, le, ll, _, _, .ref e.a, .ref x.a, rfl, e12 _ _ L.hc, e12 _ _ L.he, hl2, nel, by rw [List.length_map, List.length_reverse]; exact hfn, fun H3 h3e h3l kp dm => ?_⟩
    have hx := L.hfs (x, b) (.head _)
    have nx := (hx.same e12)
    refine ⟨p, dx, lf, lb, c, _, _, _, _, b.behind, x, rfl, kp _ _ (by simp [np.1.symm, np2.1.symm]) (e12 _ _ L.hp), kp _ _ (by simp [nx.ne_l hl2, nx.ne_l (e12 _ _ L.he)]) nx.1, fun H4 h4 kp4 dm4 => ?_⟩
    have L4 := L.turn (x := (x, b)) (ps2 := (e, d.now) :: ps) (fs2 := gs') (fresh_back e1 hlf) (fresh_back e1 hlb) e12 he (List.mem_append_right _ (.head _)) kin (fun y hy => by
      cases hy with
      | head => exact .inl rfl
      | tail _ hy => exact .inr (List.mem_append_left _ hy)) (fun y hy => .inr (List.mem_append_right _ (.tail _ hy))) (nd_again nd (L.apart (fresh_back e1 hlf)) (L.apart (fresh_back e1 hlb)) hne) (by
      rw [h3e, List.reverse_cons, List.map_append]
      rfl) h3l kp h4 kp4
    have e0 : d.now :: d.past = ((e, d.now) :: ps).map (·.2) := by rw [L.ep, List.map_cons]
    refine k H4 ?_
    rw [hr', e0]
    exact ⟨_, _, _, _, _, _, _, _, _, L4⟩
end
end Fs
namespace Fs
open PySem PySem.Spec PyProof.Rows L2 Evl
open Km495 (Book Desk Man)

section
variable {C CC : Addr} {H : Hp} {Q : VK} {E : XK} {vs : List V}
theorem u_m0 {c : Nat} (x : Km495.Call) (h : spU C CC c vs H Q E) (ha : arity c = 0 := by rfl) (hc : Km495Neutral.callOf (callL c []) = some x := by rfl) (hs : Km495Neutral.isStart x = false := by rfl) :
    ∃ (H0 : Hp) (p : Addr) (d : Desk), vs = [.ref p] ∧ DeskAt C CC H0 H p d ∧ GoodD d ∧ ∀ (q : Addr) (H' : Hp), H0 q = none → DeskAt C CC H0 H' p (Km495.act d x).1 → GoodD (Km495.act d x).1 → H' q = some (.lst ((Km495Neutral.told (Km495.act d x).2).map V.int)) → Q (.ref q) H' := by
  obtain ⟨H0, p, d, xs, e, hl, D, g, k⟩ := u_some h (f := fun _ => x) (fun xs hl => by rw [ha] at hl; rw [List.eq_nil_of_length_eq_zero hl]; exact hc) (fun _ => hs)
  rw [ha] at hl
  have e0 := List.eq_nil_of_length_eq_zero hl
  subst e0
  exact ⟨H0, p, d, e, D, g, k⟩
theorem u_m1 {c : Nat} (x : Nat → Km495.Call) (h : spU C CC c vs H Q E) (ha : arity c = 1 := by rfl) (hc : ∀ i, Km495Neutral.callOf (callL c [i]) = some (x i) := by intro _; rfl) (hs : ∀ i, Km495Neutral.isStart (x i) = false := by intro _; rfl) :
    ∃ (H0 : Hp) (p : Addr) (d : Desk) (i : Nat), vs = [.ref p, nV i] ∧ DeskAt C CC H0 H p d ∧ GoodD d ∧ ∀ (q : Addr) (H' : Hp), H0 q = none → DeskAt C CC H0 H' p (Km495.act d (x i)).1 → GoodD (Km495.act d (x i)).1 → H' q = some (.lst ((Km495Neutral.told (Km495.act d (x i)).2).map V.int)) → Q (.ref q) H' := by
  obtain ⟨H0, p, d, xs, e, hl, D, g, k⟩ := u_some h (f := fun xs => x (xs.headD 0)) (fun xs hl => by
    rw [ha] at hl
    match xs, hl with
    | [i], _ => exact hc i) (fun _ => hs _)
  rw [ha] at hl
  match xs, hl with
  | [i], _ => exact ⟨H0, p, d, i, e, D, g, k⟩
theorem u_m2 {c : Nat} (x : Nat → Nat → Km495.Call) (h : spU C CC c vs H Q E) (ha : arity c = 2 := by rfl) (hc : ∀ i j, Km495Neutral.callOf (callL c [i, j]) = some (x i j) := by intro _ _; rfl) (hs : ∀ i j, Km495Neutral.isStart (x i j) = false := by intro _ _; rfl) :
    ∃ (H0 : Hp) (p : Addr) (d : Desk) (i j : Nat), vs = [.ref p, nV i, nV j] ∧ DeskAt C CC H0 H p d ∧ GoodD d ∧ ∀ (q : Addr) (H' : Hp), H0 q = none → DeskAt C CC H0 H' p (Km495.act d (x i j)).1 → GoodD (Km495.act d (x i j)).1 → H' q = some (.lst ((Km495Neutral.told (Km495.act d (x i j)).2).map V.int)) → Q (.ref q) H' := by
  obtain ⟨H0, p, d, xs, e, hl, D, g, k⟩ := u_some h (f := fun xs => x (xs.getD 0 0) (xs.getD 1 0)) (fun xs hl => by
    rw [ha] at hl
    match xs, hl with
    | [i, j], _ => exact hc i j) (fun _ => hs _ _)
  rw [ha] at hl
  match xs, hl with
  | [i, j], _ => exact ⟨H0, p, d, i, j, e, D, g, k⟩
theorem endU {H0 H' : Hp} {p : Addr} {d d' : Desk} {x : Km495.Call} {A : Km495.Ans} (k : ∀ (q : Addr) (H' : Hp), H0 q = none → DeskAt C CC H0 H' p (Km495.act d x).1 → GoodD (Km495.act d x).1 → H' q = some (.lst ((Km495Neutral.told (Km495.act d x).2).map V.int)) → Q (.ref q) H')
    (e : Km495.act d x = (d', A)) (D' : DeskAt C CC H0 H' p d') (g' : GoodD d') : RetL (V.int A.value :: A.out.map nV) H' Q := by
  rw [e] at k
  exact fun q H2 hq e2 h2 => k q H2 (fresh_back D'.ex hq) (D'.same e2) g' (by rw [told_map A.value A.out]; exact h2)
end
section
variable {K : PySem.W.Frag} {mg : Str → Option Value} {C CC p : Addr} {gs : List Addr} {σ : L2.St} {H0 H H' : Hp} {ta tb te : TE} {v : V} {D : Ends} {tz : TS} {E E' : XK} {d : Desk}
theorem ev_hmb (T : Txt K mg C CC gs) (D : DeskAt C CC H0 H p d) (h0 : σ[0]? = some (some (.ref p))) : Ev (tMeth CC "how_many_back" (spHmb CC) [] E (tFld K (tVar 0) "changes") tNil) σ H (nV d.past.length) := by
  obtain ⟨dx, c, dc, lf, lb, le, ll, ps, fs, L⟩ := D
  refine ev_meth (ev_fld (ev_var h0) L.hp T.cl T.n_changes pF_changes) L.hc (cF_no (by decide +kernel)) ea_nil (fun H1 e Q q E => ⟨c, dc, le, ll, _, rfl, e _ _ L.hc, e _ _ L.he, ?_⟩)
  rw [List.length_map, List.length_reverse]
  rw [L.ep, List.length_map] at q
  exact q
theorem ev_hma (T : Txt K mg C CC gs) (D : DeskAt C CC H0 H p d) (h0 : σ[0]? = some (some (.ref p))) : Ev (tMeth CC "how_many_again" (spHma CC) [] E (tFld K (tVar 0) "changes") tNil) σ H (nV d.future.length) := by
  obtain ⟨dx, c, dc, lf, lb, le, ll, ps, fs, L⟩ := D
  refine ev_meth (ev_fld (ev_var h0) L.hp T.cl T.n_changes pF_changes) L.hc (cF_no (by decide +kernel)) ea_nil (fun H1 e Q q E => ⟨c, dc, le, ll, _, rfl, e _ _ L.hc, e _ _ L.hl, ?_⟩)
  rw [List.length_map, List.length_reverse]
  rw [L.ef, List.length_map] at q
  exact q
theorem el_catV {a : Addr} {xs ys : List V} (ha : EvL ta σ H xs) (hb : Ev tb σ H (.ref a)) (h : H a = some (.lst ys)) (hl : xs.length + ys.length ≤ 100000) : EvL (tOp rCat ta tb) σ H (xs ++ ys) := fun H1 e Q q =>
  ha H1 e _ fun p H2 hp e2 h2 => hb H2 (e.trans e2) _ fun H3 e3 => ⟨p, a, xs, ys, rfl, rfl, e3 _ _ h2, ((e.trans e2).trans e3) _ _ h, sz_of hl, fun l hl' => q l _ (fresh_back (e2.trans e3) hl') ((e2.trans e3).trans (Ex.new hl')) upd_same⟩
theorem el_slN {tl th : TO} {xs : List V} {lo hi : Option Int} (h : EvL te σ H xs) (h1 : EvO tl σ H lo) (h2 : EvO th σ H hi) : EvL (tSl (rSlL K) te tl th) σ H (cutV xs lo hi) := fun H1 e _ q =>
  h H1 e _ fun a H2 _ e2 ha => h1 H2 (e.trans e2) _ fun H3 e3 => h2 H3 ((e.trans e2).trans e3) _ fun H4 e4 =>
    ⟨a, xs, rfl, sq_of (e4 _ _ (e3 _ _ ha)), fun p hp => q p _ (fresh_back ((e2.trans e3).trans e4) hp) (((e2.trans e3).trans e4).trans (Ex.new hp)) upd_same⟩
/-- a method that changes the desk -/
theorem pm_open {m : Str} {sp : Sp} {tA : TA} {vs : List V} {QV : VK} {b : Book} (R : BookAt C H p b) (h0 : σ[0]? = some (some (.ref p))) (ha : EvA tA σ H vs) (k : ∀ H1, Ex H H1 → sp (.ref p :: vs) H1 QV E)
    (nm : (([("term" : Str), "behind", "grades", "first_year", "fathers", "births", "changes"] : List Str).all fun x => !(m == x)) = true := by decide +kernel) : tMeth C m sp [] E (tVar 0) tA σ H QV := by
  obtain ⟨dx, lf, lb, c, h1, h2, h3⟩ := id R
  refine m_open (ev_var h0) h1 (pF_no nm) (fun H1 e1 => ha H1 e1 _ fun H2 e2 => ?_)
  rw [List.append_nil]
  exact k H2 (e1.trans e2)
end
theorem step_bad {s : Km495Neutral.S} {t k g f : Nat} (h : t = 0 ∨ 20 < t ∨ k = 0 ∨ 8 < k ∨ g = 0 ∨ 12 < g ∨ 100 < f) : Km495Neutral.step s (callL 0 [t, k, g, f]) = (s, [-22]) := by
  have e : Km495Neutral.callOf (callL 0 [t, k, g, f]) = some (.start t k g f) := rfl
  have a : ∀ d, Km495.act d (.start t k g f) = (d, Km495.only (-22)) := fun d => if_pos h
  cases s with
  | none =>
    unfold Km495Neutral.step
    rw [e]
    show (if Km495Neutral.isStart (.start t k g f) = true then _ else _) = _
    rw [if_pos (show Km495Neutral.isStart (.start t k g f) = true from rfl), a]
    rfl
  | some d =>
    rw [step_some e, a]
    rfl
theorem step_ok {s : Km495Neutral.S} {t k g f : Nat} (h : ¬ (t = 0 ∨ 20 < t ∨ k = 0 ∨ 8 < k ∨ g = 0 ∨ 12 < g ∨ 100 < f)) : Km495Neutral.step s (callL 0 [t, k, g, f]) = (some (Km495.fresh t k g f), [(f : Int)]) := by
  have e : Km495Neutral.callOf (callL 0 [t, k, g, f]) = some (.start t k g f) := rfl
  have a : ∀ d, Km495.act d (.start t k g f) = (Km495.fresh t k g f, Km495.only (Km495.n2i f)) := fun d => if_neg h
  cases s with
  | none =>
    unfold Km495Neutral.step
    rw [e]
    show (if Km495Neutral.isStart (.start t k g f) = true then _ else _) = _
    rw [if_pos (show Km495Neutral.isStart (.start t k g f) = true from rfl), a]
    show ((if (Km495.n2i f) < 0 then none else some (Km495.fresh t k g f)), [Km495.n2i f]) = _
    rw [if_neg (by show ¬ (f : Int) < 0; omega)]
    rfl
  | some d =>
    rw [step_some e, a]
    rfl
theorem good_fresh {t k g f : Nat} (h : ¬ (t = 0 ∨ 20 < t ∨ k = 0 ∨ 8 < k ∨ g = 0 ∨ 12 < g ∨ 100 < f)) : GoodD (Km495.fresh t k g f) := ⟨Good.start h, (fun b hb => by cases hb), (fun b hb => by cases hb), Nat.zero_le _⟩
section
variable {P : Program} {w : World} {K : PySem.W.Frag} {mg : Str → Option Value} {base : Heap} {C CC : Addr} {fs : List Addr}
abbrev N_fr_start : List Str := ["people", "t", "k", "g", "f"]
theorem sc_fr_start : FnScope N_fr_start ["people", "t", "k", "g", "f"] (defScope s_fr_start) := ⟨rfl, rfl, rfl, by decide +kernel, rfl, by decide +kernel, by decide +kernel⟩
theorem ok_fr_start {f : Addr} {fd : FuncData} (F : Fun K "fr_start" "fr_start" s_fr_start f fd) (T : Txt K mg C CC fs) (c_between : C8.Cal P w K mg base 1 "between" spBetween []) (m_p_begin : C8.Met P w K mg base 3 C "begin" (spBegin C CC) []) : FnOk P w K mg base CX0 4 f fd ["people", "t", "k", "g", "f"] (spU C CC 0) := by
  refine F.ok sc_fr_start (fun vs H Q E h => ?_) (fun cdv A outer s H vs Q E hr h => ?_)
  · exact u_len h rfl
  · obtain ⟨H0, p, s, xs, rfl, hl, D, gs, _, kk⟩ := h
    obtain ⟨t, k, g, f, rfl⟩ : ∃ t k g f, xs = [t, k, g, f] := by
      match xs, hl with
      | [t, k, g, f], _ => exact ⟨t, k, g, f, rfl⟩
    have R := D.book
    refine ⟨_, (pss_cons (ps_if (PW.pt (pw_or (pt_not (pt_val (C8.pe_c c_between hr (by decide) (by rfl) (pa_cons pe_int (pa_cons (C8.pe_gc rfl T.i_MOST_YEARS_A_TERM) (pa_cons (pv 1) pa_nil)))))) (pw_or1 (pt_not (pt_val (C8.pe_c c_between hr (by decide) (by rfl) (pa_cons pe_int (pa_cons (C8.pe_gc rfl T.i_MOST_SETS_BEHIND) (pa_cons (pv 2) pa_nil))))))))) (pss_one (ps_ret (pe_lst (pa_cons (C8.pe_gc rfl T.i_OUT_OF_BOUNDS) pa_nil)))) pss_nil)
      (pss_cons (ps_if (PW.pt (pw_or (pt_not (pt_val (C8.pe_c c_between hr (by decide) (by rfl) (pa_cons pe_int (pa_cons (C8.pe_gc rfl T.i_MOST_GRADES) (pa_cons (pv 3) pa_nil)))))) (pw_or1 (pt_cmpR op_gt (pv 4) (C8.pe_gc rfl T.i_LATEST_FIRST_SET) (nomark _))))) (pss_one (ps_ret (pe_lst (pa_cons (C8.pe_gc rfl T.i_OUT_OF_BOUNDS) pa_nil)))) pss_nil)
      (pss_cons (ps_expr (C8.pe_mt m_p_begin hr (by decide) (pv 0) (pa_cons (pv 1) (pa_cons (pv 2) (pa_cons (pv 3) (pa_cons (pv 4) pa_nil))))))
      (pss_one (ps_ret (pe_lst (pa_cons (pv 4) pa_nil))))))), ?_⟩
    have bad : (t = 0 ∨ 20 < t ∨ k = 0 ∨ 8 < k ∨ g = 0 ∨ 12 < g ∨ 100 < f) → RetL [.int (-22)] H Q := fun c => by
      rw [step_bad c] at kk
      exact fun q H2 hq e2 h2 => kk q H2 (fresh_back D.ex hq) (D.same e2) gs h2
    refine q_when (et_or (et_not (et_B (ev_call0 (ea_cons ev_c (ea_cons ev_c (ea_cons (ev_var rfl) ea_nil))) spBetween_v))) (fun _ => et_not (et_B (ev_call0 (ea_cons ev_c (ea_cons ev_c (ea_cons (ev_var rfl) ea_nil))) spBetween_v)))) (fun hb H1 e1 => ?_) (fun hb H1 e1 => ?_)
    · refine refuse (bad ?_) e1
      simp only [Bool.or_eq_true, Bool.not_eq_true', Bool.and_eq_false_iff, decide_eq_false_iff_not] at hb
      omega
    simp only [Bool.or_eq_false_iff, Bool.not_eq_false', Bool.and_eq_true, decide_eq_true_eq] at hb
    refine q_when (et_or (et_not (et_B (ev_call0 (ea_cons ev_c (ea_cons ev_c (ea_cons (ev_var rfl) ea_nil))) spBetween_v))) (fun _ => et_test (ev_op (ev_var rfl) ev_c rv_I0))) (fun hb2 H2 e2 => ?_) (fun hb2 H2 e2 => ?_)
    · refine refuse (bad ?_) (e1.trans e2)
      simp only [Bool.or_eq_true, Bool.not_eq_true', Bool.and_eq_false_iff, decide_eq_false_iff_not, decide_eq_true_eq] at hb2
      omega
    simp only [Bool.or_eq_false_iff, Bool.not_eq_false', Bool.and_eq_true, decide_eq_true_eq, decide_eq_false_iff_not] at hb2
    have c : ¬ (t = 0 ∨ 20 < t ∨ k = 0 ∨ 8 < k ∨ g = 0 ∨ 12 < g ∨ 100 < f) := by omega
    rw [step_ok c] at kk
    have D2 := D.same (e1.trans e2)
    refine q_drop0 (pm_open D2.book rfl (ea_cons (ev_var rfl) (ea_cons (ev_var rfl) (ea_cons (ev_var rfl) (ea_cons (ev_var rfl) ea_nil)))) (fun H3 e3 => ⟨H0, p, _, t, k, g, f, rfl, D2.same e3, fun H4 D4 => ?_⟩))
    exact s_retL (el_lst (ea_cons (ev_var rfl) ea_nil) (by show 1 ≤ 100000; decide)) (fun q H5 hq e5 h5 => kk q H5 (fresh_back D4.ex hq) (D4.same e5) (good_fresh c) h5)
abbrev N_fr_son : List Str := ["people", "p", "y", "son"]
theorem sc_fr_son : FnScope N_fr_son ["people", "p", "y"] (defScope s_fr_son) := ⟨rfl, rfl, rfl, by decide +kernel, rfl, by decide +kernel, by decide +kernel⟩
theorem ok_fr_son {f : Addr} {fd : FuncData} (F : Fun K "fr_son" "fr_son" s_fr_son f fd) (T : Txt K mg C CC fs) (m_p_has : C8.Met P w K mg base 1 C "has" (spP C f_has) []) (m_p_how_many : C8.Met P w K mg base 1 C "how_many" (spP C f_how_many) []) (m_p_add_son : C8.Met P w K mg base 2 C "add_son" (spAddSon C CC) []) (c_signed : C8.Cal P w K mg base 2 "signed" spSigned []) (m_p_age_in : C8.Met P w K mg base 5 C "age_in" (spP C f_age) []) : FnOk P w K mg base CX0 6 f fd ["people", "p", "y"] (spU C CC 1) := by
  refine F.ok sc_fr_son (fun vs H Q E h => ?_) (fun cdv A outer s H vs Q E hr h => ?_)
  · exact u_len h rfl
  · obtain ⟨H0, p, d, i, j, rfl, D, gd, k⟩ := u_m2 Km495.Call.son h
    have g := gd.now
    have R := D.book
    refine ⟨_, (pss_cons (ps_if (pt_not (pt_val (C8.pe_mt m_p_has hr (by decide) (pv 0) (pa_cons (pv 1) pa_nil)))) (pss_one (ps_ret (pe_lst (pa_cons (C8.pe_gc rfl T.i_NOT_THERE) pa_nil)))) pss_nil)
      (pss_cons (ps_if (PW.pt (pw_or (pt_cmpR op_gt (pv 2) (C8.pe_gc rfl T.i_LATEST_BIRTH) (nomark _)) (pw_or1 (pt_cmpR op_le (pv 2) (pe_ix ix_list (pe_fld (pv 0) rfl) (pv 1) (fun _ _ => rfl)) (nomark _))))) (pss_one (ps_ret (pe_lst (pa_cons (C8.pe_gc rfl T.i_OUT_OF_BOUNDS) pa_nil)))) pss_nil)
      (pss_cons (ps_if (pt_cmpR op_ge (C8.pe_mt0 m_p_how_many hr (by decide) (pv 0)) (C8.pe_gc rfl T.i_MOST_MEN) (nomark _)) (pss_one (ps_ret (pe_lst (pa_cons (C8.pe_gc rfl T.i_TOO_MANY) pa_nil)))) pss_nil)
      (pss_cons (ps_set (i := 3) sc_fr_son.nd rfl (Or.inl rfl) (C8.pe_mt0 m_p_how_many hr (by decide) (pv 0)))
      (pss_cons (ps_expr (C8.pe_mt m_p_add_son hr (by decide) (pv 0) (pa_cons (pv 1) (pa_cons (pv 2) pa_nil))))
      (pss_one (ps_ret (pe_op op_cat (pe_lst (pa_cons (pv 3) pa_nil)) (C8.pe_c c_signed hr (by decide) (by rfl) (pa_cons (C8.pe_mt m_p_age_in hr (by decide) (pv 0) (pa_cons (pv 3) pa_nil)) pa_nil)))))))))), ?_⟩
    refine q_when (et_nohas R rfl rfl) (fun hb H1 e1 => ?_) (fun hb H1 e1 => ?_)
    · refine refuse (endU k (A := Km495.only (-2)) ?_ D gd) e1
      exact if_pos (no_true (not_lt hb))
    have hi := is_lt hb
    refine q_when (et_or (et_test (ev_op (ev_var rfl) ev_c rv_I0)) (fun _ => et_test (ev_op (ev_var rfl) (ev_born T (R.ex e1) hi (ev_var rfl) (ev_var rfl)) rv_I0))) (fun hb2 H2 e2 => ?_) (fun hb2 H2 e2 => ?_)
    · refine refuse (endU k (A := Km495.only (-22)) ?_ D gd) (e1.trans e2)
      refine (if_neg (no_false hi)).trans (if_pos ?_)
      simp only [Bool.or_eq_true, decide_eq_true_eq] at hb2
      show 2000 < j ∨ j ≤ (d.now.at_ i).born
      omega
    simp only [Bool.or_eq_false_iff, decide_eq_false_iff_not] at hb2
    have c2 : ¬ (Km495.LAST < j ∨ j ≤ (d.now.at_ i).born) := by
      show ¬ (2000 < j ∨ j ≤ (d.now.at_ i).born)
      omega
    have c2' : j ≤ 2000 ∧ (d.now.at_ i).born < j := by omega
    have R2 := (R.ex e1).ex e2
    refine q_when (et_test (ev_op (ev_pm R2 [] ⟨rfl, rfl⟩ (ev_var rfl) ea_nil) ev_c rv_I0)) (fun hb3 H3 e3 => ?_) (fun hb3 H3 e3 => ?_)
    · refine refuse (endU k (A := Km495.only (-28)) ?_ D gd) ((e1.trans e2).trans e3)
      refine (if_neg (no_false hi)).trans ((if_neg c2).trans (if_pos ?_))
      have := of_decide_eq_true hb3
      show 24 ≤ d.now.n
      omega
    have c3 : d.now.n < 24 := by
      have := of_decide_eq_false hb3
      omega
    have E3 := (e1.trans e2).trans e3
    refine q_asg (ev_pm (R.ex E3) [] ⟨rfl, rfl⟩ (ev_var rfl) ea_nil) (fun H4 e4 => ?_)
    have E4 := E3.trans e4
    refine q_drop0 (pm_open (R.ex E4) rfl (ea_cons (ev_var rfl) (ea_cons (ev_var rfl) ea_nil)) (fun H5 e5 => ⟨H0, p, d, i, j, rfl, D.same (E4.trans e5), by omega, by have := gd.few; omega, fun H6 D6 => ?_⟩))
    have g' : Good ({ d.now with men := d.now.men ++ [⟨i, j⟩] } : Book) := g.son hi c2'.1 c2'.2 c3
    have e0 : Km495.act d (.son i j) = (d.become { d.now with men := d.now.men ++ [⟨i, j⟩] }, ⟨Km495.n2i d.now.n, Km495.signed (({ d.now with men := d.now.men ++ [⟨i, j⟩] } : Book).age d.now.n)⟩) :=
      (if_neg (no_false hi)).trans ((if_neg c2).trans (if_neg (by show ¬ 24 ≤ d.now.n; omega)))
    refine finish (el_cat (el_lst (ea_cons (ev_var rfl) ea_nil) (by show 1 ≤ 100000; decide)) (el_call0 (ea_cons (ev_pm D6.book [d.now.n] ⟨d.now.n, rfl, g', by rw [show (d.become { d.now with men := d.now.men ++ [⟨i, j⟩] }).now.n = d.now.n + 1 from n_app]; omega, rfl⟩ (ev_var rfl) (ea_cons (ev_var rfl) ea_nil)) ea_nil) spSigned_l) (by show 3 ≤ 100000; decide)) (endU k e0 D6 (gd.become g' ⟨rfl, rfl, rfl⟩)) (Ex.refl _)
abbrev N_fr_drop : List Str := ["people"]
theorem sc_fr_drop : FnScope N_fr_drop ["people"] (defScope s_fr_drop) := ⟨rfl, rfl, rfl, by decide +kernel, rfl, by decide +kernel, by decide +kernel⟩
theorem ok_fr_drop {f : Addr} {fd : FuncData} (F : Fun K "fr_drop" "fr_drop" s_fr_drop f fd) (T : Txt K mg C CC fs) (m_p_how_many : C8.Met P w K mg base 1 C "how_many" (spP C f_how_many) []) (m_p_drop_last : C8.Met P w K mg base 2 C "drop_last" (spDropLast C CC) []) : FnOk P w K mg base CX0 3 f fd ["people"] (spU C CC 2) := by
  refine F.ok sc_fr_drop (fun vs H Q E h => ?_) (fun cdv A outer s H vs Q E hr h => ?_)
  · exact u_len h rfl
  · obtain ⟨H0, p, d, rfl, D, gd, k⟩ := u_m0 Km495.Call.drop h
    have g := gd.now
    have R := D.book
    refine ⟨_, (pss_cons (ps_if (pt_cmpR op_eq (C8.pe_mt0 m_p_how_many hr (by decide) (pv 0)) pe_int (nomark _)) (pss_one (ps_ret (pe_lst (pa_cons (C8.pe_gc rfl T.i_FIRST_ALONE) pa_nil)))) pss_nil)
      (pss_cons (ps_expr (C8.pe_mt0 m_p_drop_last hr (by decide) (pv 0)))
      (pss_one (ps_ret (pe_lst (pa_cons (C8.pe_mt0 m_p_how_many hr (by decide) (pv 0)) pa_nil)))))), ?_⟩
    refine q_when (et_test (ev_op (ev_pm R [] ⟨rfl, rfl⟩ (ev_var rfl) ea_nil) ev_c (rv_eq rfl))) (fun hb H1 e1 => ?_) (fun hb H1 e1 => ?_)
    · refine refuse (endU k (A := Km495.only (-6)) (if_pos ?_) D gd) e1
      exact Int.ofNat.inj (V.int.inj (of_decide_eq_true hb))
    have c : ¬ d.now.n = 1 := fun z => by
      rw [z] at hb
      exact absurd hb (by decide)
    refine q_drop0 (pm_open (R.ex e1) rfl ea_nil (fun H5 e5 => ⟨H0, p, d, rfl, D.same (e1.trans e5), g.n1, by have := gd.few; omega, fun H6 D6 => ?_⟩))
    have e0 : Km495.act d .drop = (d.become { d.now with men := d.now.men.dropLast }, Km495.only (Km495.n2i (d.now.n - 1))) := if_neg c
    refine finish (el_is (el_lst (ea_cons (ev_pm D6.book [] ⟨rfl, rfl⟩ (ev_var rfl) ea_nil) ea_nil) (by show 1 ≤ 100000; decide)) ?_) (endU k e0 D6 (gd.become (g.drop c) ⟨rfl, rfl, rfl⟩)) (Ex.refl _)
    show [nV ({ d.now with men := d.now.men.dropLast } : Book).n] = [nV (d.now.n - 1)]
    rw [n_drop]
abbrev N_fr_behind : List Str := ["people", "k", "before"]
theorem sc_fr_behind : FnScope N_fr_behind ["people", "k"] (defScope s_fr_behind) := ⟨rfl, rfl, rfl, by decide +kernel, rfl, by decide +kernel, by decide +kernel⟩
theorem ok_fr_behind {f : Addr} {fd : FuncData} (F : Fun K "fr_behind" "fr_behind" s_fr_behind f fd) (T : Txt K mg C CC fs) (c_between : C8.Cal P w K mg base 1 "between" spBetween []) (m_p_put_behind : C8.Met P w K mg base 2 C "put_behind" (spPutBehind C CC) []) : FnOk P w K mg base CX0 3 f fd ["people", "k"] (spU C CC 3) := by
  refine F.ok sc_fr_behind (fun vs H Q E h => ?_) (fun cdv A outer s H vs Q E hr h => ?_)
  · exact u_len h rfl
  · obtain ⟨H0, p, d, i, rfl, D, gd, k⟩ := u_m1 Km495.Call.behind h
    have g := gd.now
    have R := D.book
    refine ⟨_, (pss_cons (ps_if (pt_not (pt_val (C8.pe_c c_between hr (by decide) (by rfl) (pa_cons pe_int (pa_cons (C8.pe_gc rfl T.i_MOST_SETS_BEHIND) (pa_cons (pv 1) pa_nil)))))) (pss_one (ps_ret (pe_lst (pa_cons (C8.pe_gc rfl T.i_OUT_OF_BOUNDS) pa_nil)))) pss_nil)
      (pss_cons (ps_set (i := 2) sc_fr_behind.nd rfl (Or.inl rfl) (pe_fld (pv 0) rfl))
      (pss_cons (ps_if (pt_cmpR op_eq (pv 1) (pv 2) (nomark _)) (pss_one (ps_ret (pe_lst (pa_cons (C8.pe_gc rfl T.i_ALREADY_SO) pa_nil)))) pss_nil)
      (pss_cons (ps_expr (C8.pe_mt m_p_put_behind hr (by decide) (pv 0) (pa_cons (pv 1) pa_nil)))
      (pss_one (ps_ret (pe_lst (pa_cons (pv 2) pa_nil)))))))), ?_⟩
    refine q_when (et_not (et_B (ev_call0 (ea_cons ev_c (ea_cons ev_c (ea_cons (ev_var rfl) ea_nil))) spBetween_v))) (fun hb H1 e1 => ?_) (fun hb H1 e1 => ?_)
    · refine refuse (endU k (A := Km495.only (-22)) (if_pos ?_) D gd) e1
      simp only [Bool.not_eq_true', Bool.and_eq_false_iff, decide_eq_false_iff_not] at hb
      omega
    simp only [Bool.not_eq_false', Bool.and_eq_true, decide_eq_true_eq] at hb
    have c : ¬ (i = 0 ∨ 8 < i) := by omega
    refine q_asg (ev_behind T (R.ex e1) (ev_var rfl)) (fun H2 e2 => ?_)
    refine q_when (et_test (ev_is (ev_op (ev_var rfl) (ev_var rfl) (rv_eq rfl)) bl_eq)) (fun hb2 H3 e3 => ?_) (fun hb2 H3 e3 => ?_)
    · refine refuse (endU k (A := Km495.only (-17)) ((if_neg c).trans (if_pos ?_)) D gd) ((e1.trans e2).trans e3)
      exact of_decide_eq_true hb2
    have c2 : ¬ i = d.now.behind := of_decide_eq_false hb2
    have E3 := (e1.trans e2).trans e3
    refine q_drop0 (pm_open (R.ex E3) rfl (ea_cons (ev_var rfl) ea_nil) (fun H5 e5 => ⟨H0, p, d, i, rfl, D.same (E3.trans e5), by have := gd.few; omega, fun H6 D6 => ?_⟩))
    have e0 : Km495.act d (.behind i) = (d.become { d.now with behind := i }, Km495.only (Km495.n2i d.now.behind)) := (if_neg c).trans (if_neg c2)
    exact finish (el_lst (ea_cons (ev_var rfl) ea_nil) (by show 1 ≤ 100000; decide)) (endU k e0 D6 (gd.become (g.behind (by omega) (by omega)) ⟨rfl, rfl, rfl⟩)) (Ex.refl _)
abbrev N_fr_back : List Str := ["people"]
theorem sc_fr_back : FnScope N_fr_back ["people"] (defScope s_fr_back) := ⟨rfl, rfl, rfl, by decide +kernel, rfl, by decide +kernel, by decide +kernel⟩
theorem ok_fr_back {f : Addr} {fd : FuncData} (F : Fun K "fr_back" "fr_back" s_fr_back f fd) (T : Txt K mg C CC fs) (m_c_how_many_back : C8.Met P w K mg base 1 CC "how_many_back" (spHmb CC) []) (m_p_take_back : C8.Met P w K mg base 2 C "take_back" (spTakeBack C CC) []) : FnOk P w K mg base CX0 3 f fd ["people"] (spU C CC 21) := by
  refine F.ok sc_fr_back (fun vs H Q E h => ?_) (fun cdv A outer s H vs Q E hr h => ?_)
  · exact u_len h rfl
  · obtain ⟨H0, p, d, rfl, D, gd, k⟩ := u_m0 Km495.Call.back h
    have R := D.book
    refine ⟨_, (pss_cons (ps_if (pt_cmpR op_eq (C8.pe_mt0 m_c_how_many_back hr (by decide) (pe_fld (pv 0) rfl)) pe_int (nomark _)) (pss_one (ps_ret (pe_lst (pa_cons (C8.pe_gc rfl T.i_NOT_THERE) pa_nil)))) pss_nil)
      (pss_cons (ps_expr (C8.pe_mt0 m_p_take_back hr (by decide) (pv 0)))
      (pss_one (ps_ret (pe_lst (pa_cons (C8.pe_mt0 m_c_how_many_back hr (by decide) (pe_fld (pv 0) rfl)) pa_nil)))))), ?_⟩
    cases hq : d.past with
    | nil =>
      refine q_when (et_test (ev_op (ev_hmb T D rfl) ev_c (rv_eq rfl))) (fun hb H1 e1 => ?_) (fun hb H1 e1 => ?_)
      · refine refuse (endU k (A := Km495.only (-2)) ?_ D gd) e1
        show (match d.past with | [] => (d, Km495.only (-2)) | k :: r => (⟨k, r, d.now :: d.future⟩, Km495.only (Km495.n2i r.length))) = _
        rw [hq]
      · rw [hq] at hb
        exact absurd hb (by decide)
    | cons b r =>
      refine q_when (et_test (ev_op (ev_hmb T D rfl) ev_c (rv_eq rfl))) (fun hb H1 e1 => ?_) (fun hb H1 e1 => ?_)
      · rw [hq] at hb
        have := Int.ofNat.inj (V.int.inj (of_decide_eq_true hb))
        exact absurd this (by simp)
      · have e0 : Km495.act d .back = (⟨b, r, d.now :: d.future⟩, Km495.only (Km495.n2i r.length)) := by
          show (match d.past with | [] => (d, Km495.only (-2)) | k :: r => (⟨k, r, d.now :: d.future⟩, Km495.only (Km495.n2i r.length))) = _
          rw [hq]
        refine q_drop0 (pm_open (R.ex e1) rfl ea_nil (fun H5 e5 => ⟨H0, p, d, b, r, rfl, D.same (e1.trans e5), hq, (gd.past b (by rw [hq]; exact .head _)).2, by have := gd.few; omega, fun H6 D6 => ?_⟩))
        exact finish (el_lst (ea_cons (ev_hmb T D6 rfl) ea_nil) (by show 1 ≤ 100000; decide)) (endU k e0 D6 (gd.back hq)) (Ex.refl _)
abbrev N_fr_again : List Str := ["people"]
theorem sc_fr_again : FnScope N_fr_again ["people"] (defScope s_fr_again) := ⟨rfl, rfl, rfl, by decide +kernel, rfl, by decide +kernel, by decide +kernel⟩
theorem ok_fr_again {f : Addr} {fd : FuncData} (F : Fun K "fr_again" "fr_again" s_fr_again f fd) (T : Txt K mg C CC fs) (m_c_how_many_again : C8.Met P w K mg base 1 CC "how_many_again" (spHma CC) []) (m_p_do_again : C8.Met P w K mg base 2 C "do_again" (spDoAgain C CC) []) : FnOk P w K mg base CX0 3 f fd ["people"] (spU C CC 22) := by
  refine F.ok sc_fr_again (fun vs H Q E h => ?_) (fun cdv A outer s H vs Q E hr h => ?_)
  · exact u_len h rfl
  · obtain ⟨H0, p, d, rfl, D, gd, k⟩ := u_m0 Km495.Call.again h
    have R := D.book
    refine ⟨_, (pss_cons (ps_if (pt_cmpR op_eq (C8.pe_mt0 m_c_how_many_again hr (by decide) (pe_fld (pv 0) rfl)) pe_int (nomark _)) (pss_one (ps_ret (pe_lst (pa_cons (C8.pe_gc rfl T.i_NOT_THERE) pa_nil)))) pss_nil)
      (pss_cons (ps_expr (C8.pe_mt0 m_p_do_again hr (by decide) (pv 0)))
      (pss_one (ps_ret (pe_lst (pa_cons (C8.pe_mt0 m_c_how_many_again hr (by decide) (pe_fld (pv 0) rfl)) pa_nil)))))), ?_⟩
    cases hq : d.future with
    | nil =>
      refine q_when (et_test (ev_op (ev_hma T D rfl) ev_c (rv_eq rfl))) (fun hb H1 e1 => ?_) (fun hb H1 e1 => ?_)
      · refine refuse (endU k (A := Km495.only (-2)) ?_ D gd) e1
        show (match d.future with | [] => (d, Km495.only (-2)) | k :: r => (⟨k, (d.now :: d.past).take Km495.PAST, r⟩, Km495.only (Km495.n2i r.length))) = _
        rw [hq]
      · rw [hq] at hb
        exact absurd hb (by decide)
    | cons b r =>
      refine q_when (et_test (ev_op (ev_hma T D rfl) ev_c (rv_eq rfl))) (fun hb H1 e1 => ?_) (fun hb H1 e1 => ?_)
      · rw [hq] at hb
        have := Int.ofNat.inj (V.int.inj (of_decide_eq_true hb))
        exact absurd this (by simp)
      · have ag := gd.again hq
        have e0 : Km495.act d .again = (⟨b, (d.now :: d.past).take Km495.PAST, r⟩, Km495.only (Km495.n2i r.length)) := by
          show (match d.future with | [] => (d, Km495.only (-2)) | k :: r => (⟨k, (d.now :: d.past).take Km495.PAST, r⟩, Km495.only (Km495.n2i r.length))) = _
          rw [hq]
        rw [ag.2] at e0 ag
        refine q_drop0 (pm_open (R.ex e1) rfl ea_nil (fun H5 e5 => ⟨H0, p, d, b, r, rfl, D.same (e1.trans e5), hq, (gd.fut b (by rw [hq]; exact .head _)).2, by have := gd.few; omega, fun H6 D6 => ?_⟩))
        exact finish (el_lst (ea_cons (ev_hma T D6 rfl) ea_nil) (by show 1 ≤ 100000; decide)) (endU k e0 D6 ag.1) (Ex.refl _)
abbrev N_fr_state : List Str := ["people", "begun"]
theorem sc_fr_state : FnScope N_fr_state ["people"] (defScope s_fr_state) := ⟨rfl, rfl, rfl, by decide +kernel, rfl, by decide +kernel, by decide +kernel⟩
theorem ok_fr_state {f : Addr} {fd : FuncData} (F : Fun K "fr_state" "fr_state" s_fr_state f fd) (T : Txt K mg C CC fs) (m_p_how_many : C8.Met P w K mg base 1 C "how_many" (spP C f_how_many) []) (m_c_how_many_again : C8.Met P w K mg base 1 CC "how_many_again" (spHma CC) []) (m_c_how_many_back : C8.Met P w K mg base 1 CC "how_many_back" (spHmb CC) []) : FnOk P w K mg base CX0 2 f fd ["people"] (spU C CC 23) := by
  refine F.ok sc_fr_state (fun vs H Q E h => ?_) (fun cdv A outer s H vs Q E hr h => ?_)
  · exact u_len h rfl
  · obtain ⟨H0, p, d, rfl, D, gd, k⟩ := u_q0 Km495.Call.state h
    have R := D.book
    refine ⟨_, (pss_cons (ps_set (i := 1) sc_fr_state.nd rfl (Or.inl rfl) (pe_lst (pa_cons (pe_fld (pv 0) rfl) (pa_cons (pe_fld (pv 0) rfl) (pa_cons (pe_fld (pv 0) rfl) (pa_cons (pe_fld (pv 0) rfl) pa_nil))))))
      (pss_one (ps_ret (pe_op op_cat (pe_op op_cat (pe_lst (pa_cons (C8.pe_mt0 m_p_how_many hr (by decide) (pv 0)) pa_nil)) (pv 1)) (pe_lst (pa_cons (C8.pe_mt0 m_c_how_many_back hr (by decide) (pe_fld (pv 0) rfl)) (pa_cons (C8.pe_mt0 m_c_how_many_again hr (by decide) (pe_fld (pv 0) rfl)) pa_nil))))))), ?_⟩
    refine q_asgL (el_lst (ea_cons (ev_term T R (ev_var rfl)) (ea_cons (ev_behind T R (ev_var rfl)) (ea_cons (ev_grades T R (ev_var rfl)) (ea_cons (ev_first T R (ev_var rfl)) ea_nil)))) (by show 4 ≤ 100000; decide)) (fun a H1 ha e1 h1 => ?_)
    have D1 := D.same e1
    exact finish (el_cat (el_catV (el_lst (ea_cons (ev_pm D1.book [] ⟨rfl, rfl⟩ (ev_var rfl) ea_nil) ea_nil) (by show 1 ≤ 100000; decide)) (ev_var rfl) h1 (by show 5 ≤ 100000; decide)) (el_lst (ea_cons (ev_hmb T D1 rfl) (ea_cons (ev_hma T D1 rfl) ea_nil)) (by show 2 ≤ 100000; decide)) (by show 7 ≤ 100000; decide)) (ret_of k ((told_map _ _).trans rfl)) e1
end
end Fs
namespace Fs
open PySem PySem.Spec PyProof.Rows L2 Evl
open Km495 (Book Desk Man)
/-! ### max of four numbers -/
section
variable {prog : Program} {w : World} {A : Around} {E : Value → Shared → Prop} {s : Shared}
theorem args_max4 (a b c e : Value) : argsOk "max" ⟨[a, b, c, e], []⟩ := by unfold argsOk; kernel_rfl
theorem call_max_four {a b c e : Value} {Q : Value → Shared → Prop} (h : wpAny (model prog w) A.in1 (pyIter (.ref s.heap.objs.size)) (fun it s2 => ∃ I fp wr n P St bt, it = .ref I ∧ Walks prog w A.in1 I fp wr n P St ∧ St 0 s2.heap ∧ (∀ b ∈ fp, b < s2.heap.objs.size) ∧ 0 < n ∧
      CmpOf prog w A.in1 .Gt P bt ∧ ∀ v h' tk, P (argBest bt (n - 1)) v → (∀ b o, b ∉ wr → s2.heap.get? b = some o → h'.get? b = some o) → Q v { s2 with heap := h', toks := tk }) E { s with heap := s.heap.push { cls := .type "tuple", data := .seq #[a, b, c, e] } }) :
    wpAny (model prog w) A (call (.builtin "max") [a, b, c, e]) Q E s := by
  have loopName : (toString "max" ++ toString ".loop" : String) = "max.loop" := by decide
  have noKw : Builtin.Builtins.bindParams "max" ["key", "default"] 0 ⟨[], []⟩ = pure [none, none] := rfl
  refine call_function_tree F.kind_max F.plain_max F.entry_max (args_max4 _ _ _ _) ?_
  show wpAny _ A.in1 (Builtin.Builtins.bindParams "max" ["key", "default"] 0 ⟨[], []⟩ >>= fun _ => _) _ _ s
  refine wpAny_bind (wpAny_of_eq noKw ?_)
  show wpAny _ A.in1 (newTuple [a, b, c, e] >>= _) _ _ s
  refine wpAny_bind (wpAny_newObj_type (wpAny_bind (wpAny_mono h (fun it s2 h2 => ?_) fun _ _ z => z)))
  obtain ⟨I, fp, wr, n, P, St, bt, rfl, W, st0, below, pos, cmp, fin⟩ := h2
  have off : s2.heap.objs.size ∉ fp := fun m => Nat.lt_irrefl _ (below _ m)
  refine (wpAny_bind (wpAny_newObj_type ?_))
  rw [loopName]
  exact wpAny_pure ⟨plainId_quiet F.plain_max_loop _, codeAny_max_loop_first W bt cmp s2.heap.objs.size off pos (W.frame _ _ _ st0 fun b _ o q => Heap.get?_push_of_some _ q) (Heap.get?_push_size _ rfl) fun v h' tk hP hk =>
    fin v h' tk hP fun b o hb q => hk b o hb (Nat.ne_of_lt (Heap.lt_size q)) (Heap.get?_push_of_some _ q)⟩
theorem max_four_ints {a b c e : Int} {t1 t2 t3 t4 : Tok} {Q : Value → Shared → Prop} (hh : A.handled = none)
    (h : ∀ h' tk (M : Int) (t' : Tok), (∀ d o, s.heap.get? d = some o → h'.get? d = some o) → (M = a ∨ M = b ∨ M = c ∨ M = e) → a ≤ M ∧ b ≤ M ∧ c ≤ M ∧ e ≤ M → Q (.int M t') { s with heap := h', toks := tk }) :
    wpAny (model prog w) A (call (.builtin "max") [.int a t1, .int b t2, .int c t3, .int e t4]) Q E s := by
  have tp : (s.heap.push { cls := .type "tuple", data := .seq #[.int a t1, .int b t2, .int c t3, .int e t4] }).IsTuple s.heap.objs.size (intItems #[(a, t1), (b, t2), (c, t3), (e, t4)]) := ⟨_, Heap.get?_push_size _ rfl, rfl, 0, by simp [intItems]⟩
  have sz : (s.heap.push { cls := .type "tuple", data := .seq #[.int a t1, .int b t2, .int c t3, .int e t4] }).objs.size = s.heap.objs.size + 1 := Heap.size_push ..
  refine call_max_four (wpAny_pyIter_tuple tp ?_)
  refine ⟨_, [_, s.heap.objs.size], [_], _, _, _, _, rfl, Walks.tuple (A := A.in1) hh _ s.heap.objs.size (by rw [sz]; exact Nat.ne_of_lt (Nat.lt_succ_self _)) (intItems #[(a, t1), (b, t2), (c, t3), (e, t4)]), ⟨⟨_, Heap.get?_push_size _ rfl, rfl, rfl⟩, tp.push _⟩,
    fun d hd => ?_, by simp [intItems], CmpOf.ints_gt (numAt #[(a, t1), (b, t2), (c, t3), (e, t4)]) (fun _ _ => intItems_at), fun v h' tk hP hk => ?_⟩
  · show d < Array.size ((s.heap.push _).push _).objs
    rw [Heap.size_push, sz]
    simp only [List.mem_cons, List.not_mem_nil, or_false] at hd
    rcases hd with q | q
    · rw [q, sz]
      exact Nat.lt_succ_self _
    · rw [q]
      exact Nat.lt_succ_of_lt (Nat.lt_succ_self _)
  · have kept : ∀ d o, s.heap.get? d = some o → h'.get? d = some o := fun d o q => by
      refine hk d o (fun m => ?_) (Heap.get?_push_of_some _ (Heap.get?_push_of_some _ q))
      simp only [List.mem_cons, List.not_mem_nil, or_false] at m
      have z := Heap.lt_size q
      rw [m, sz] at z
      exact Nat.lt_irrefl _ (Nat.lt_of_succ_lt z)
    obtain ⟨t, rfl⟩ := intItems_at hP
    have n3 : (intItems #[(a, t1), (b, t2), (c, t3), (e, t4)]).size - 1 = 3 := by simp [intItems]
    rw [n3] at hP ⊢
    obtain ⟨g1, g2⟩ := argBest_gt (numAt #[(a, t1), (b, t2), (c, t3), (e, t4)]) 3
    have v0 : numAt #[(a, t1), (b, t2), (c, t3), (e, t4)] 0 = a := rfl
    have v1 : numAt #[(a, t1), (b, t2), (c, t3), (e, t4)] 1 = b := rfl
    have v2 : numAt #[(a, t1), (b, t2), (c, t3), (e, t4)] 2 = c := rfl
    have v3 : numAt #[(a, t1), (b, t2), (c, t3), (e, t4)] 3 = e := rfl
    refine h h' tk _ t kept ?_ ⟨v0 ▸ g2 0 (by decide), v1 ▸ g2 1 (by decide), v2 ▸ g2 2 (by decide), v3 ▸ g2 3 (by decide)⟩
    generalize argBest _ 3 = j at g1
    match j, g1 with
    | 0, _ => exact .inl v0
    | 1, _ => exact .inr (.inl v1)
    | 2, _ => exact .inr (.inr (.inl v2))
    | 3, _ => exact .inr (.inr (.inr v3))
    | j + 4, q => omega
end
def rMax4 : List V → Hp → VK → Prop := fun xs H Q => ∃ i j k l : Int, xs = [.int i, .int j, .int k, .int l] ∧ ∀ m : Int, (m = i ∨ m = j ∨ m = k ∨ m = l) → i ≤ m ∧ j ≤ m ∧ k ≤ m ∧ l ≤ m → Q (.int m) H
theorem call_max4 {X : Cx} (hc : X.calm = true) : CallR X (.builtin "max") rMax4 := by
  intro pins s σ H vs us QV I r h
  obtain ⟨i, j, k, l, rfl, q⟩ := h
  cases r with
  | cons r1 r =>
    cases r with
    | cons r2 r =>
      cases r with
      | cons r3 r =>
        cases r with
        | cons r4 r =>
          cases r
          obtain ⟨t1, rfl⟩ := r1
          obtain ⟨t2, rfl⟩ := r2
          obtain ⟨t3, rfl⟩ := r3
          obtain ⟨t4, rfl⟩ := r4
          exact max_four_ints (I.ok.hd hc) fun h' tk M t' kp hM hle => ⟨.int M, H, I.kept kp, ⟨_, rfl⟩, q M hM hle⟩
end Fs
namespace Fs
open PySem PySem.Spec PyProof.Rows L2 Evl
open Km495 (Book Desk Man)

theorem u_q5 {C CC : Addr} {H : Hp} {Q : VK} {E : XK} {vs : List V} {c : Nat} (x : Nat → Nat → Nat → Nat → Nat → Km495.Call) (h : spU C CC c vs H Q E) (ha : arity c = 5 := by rfl) (hc : ∀ i j k l m, Km495Neutral.callOf (callL c [i, j, k, l, m]) = some (x i j k l m) := by intro _ _ _ _ _; rfl) (hs : ∀ i j k l m, Km495Neutral.isStart (x i j k l m) = false := by intro _ _ _ _ _; rfl) (hd : ∀ d i j k l m, (Km495.act d (x i j k l m)).1 = d := by intro _ _ _ _ _ _; rfl) :
    ∃ (H0 : Hp) (p : Addr) (d : Desk) (n a b c' e : Nat), vs = [.ref p, nV n, nV a, nV b, nV c', nV e] ∧ DeskAt C CC H0 H p d ∧ GoodD d ∧ RetL ((Km495Neutral.told (Km495.act d (x n a b c' e)).2).map V.int) H Q := by
  obtain ⟨H0, p, d, xs, e, hl, D, g, k⟩ := u_query h (f := fun xs => x (xs.getD 0 0) (xs.getD 1 0) (xs.getD 2 0) (xs.getD 3 0) (xs.getD 4 0)) (fun xs hl => by
    rw [ha] at hl
    match xs, hl with
    | [i, j, k, l, m], _ => exact hc i j k l m) (fun _ => hs _ _ _ _ _) (fun d _ => hd d _ _ _ _ _)
  rw [ha] at hl
  match xs, hl with
  | [i, j, k', l, m], _ => exact ⟨H0, p, d, i, j, k', l, m, e, D, g, k⟩
theorem after_eq {b : Book} : ∀ (l : List Nat) (a : Int), b.after a l = a + (l.length : Int) * (b.gap : Int) - (l.map fun (n : Nat) => (n : Int)).sum := by
  intro l
  unfold Km495.Book.after
  induction l with
  | nil =>
    intro a
    show a = a + (0 : Int) * (b.gap : Int) - 0
    omega
  | cons x r ih =>
    intro a
    rw [List.foldl_cons, ih, List.length_cons, List.map_cons, List.sum_cons, Int.natCast_add, Int.add_mul]
    show a + (b.gap : Int) - (x : Int) + (r.length : Int) * (b.gap : Int) - _ = a + ((r.length : Int) * (b.gap : Int) + (1 : Int) * (b.gap : Int)) - _
    rw [Int.one_mul]
    omega
theorem cut_first {xs : List V} {n : Nat} : cutV xs none (some (n : Int)) = xs.take n := by
  unfold cutV
  rw [HT.sIx_none, HT.sIx_nat, List.drop_zero, Nat.sub_zero]
  by_cases h : n ≤ xs.length
  · rw [Nat.min_eq_left h]
  · rw [Nat.min_eq_right (show xs.length ≤ n by omega), List.take_of_length_le (Nat.le_refl _), List.take_of_length_le (by omega)]
/-! ### a call by a name of the def -/
def tCallP (i : Nat) (R : Addr → Sp → Prop) (t : TA) : TE := fun σ H Q => ∃ f sp, σ[i]? = some (some (.ref f)) ∧ R f sp ∧ t σ H fun vs H1 => sp vs H1 Q (fun _ _ _ => False)
theorem pe_callP {X : Cx} {k i : Nat} {x : Str} {p pos : Pos} {e : Expr} {es : List Expr} {t : TA} {R : Addr → Sp → Prop} (A : ∀ f sp, R f sp → Held X.prog X.w X.K X.mg X.base k f sp) (hr : Room k X.A) (hN : X.N[i]? = some x) (hv : Vis X.env.scope x) (ha : PA X (e :: es) t)
    (hdb : (x == ("__debug__" : Str)) = false := by decide) (hcd : (x == ("__classdict__" : Str)) = false := by decide) (he : starEach (e :: es) X.env = (false, eval e X.env) :: starEach es X.env := by rfl) (hpl : (backTo pos (starEach es X.env)).any (·.1) = false := by rfl) :
    PE X (.Call (.Name x p) (e :: es) [] pos) (tCallP i R t) := by
  refine ⟨fun pins s σ H Q I h => ?_⟩
  obtain ⟨f, sp, hs, hR, ht⟩ := h
  obtain ⟨fd, ps, F, hk, hb⟩ := (A f sp hR).ex
  have ht' : t σ H (fun vs H1 => sp (vs ++ []) H1 Q (fun _ _ _ => False)) := by
    simp only [List.append_nil]
    exact ht
  exact (pe_callL (i := i) (f := f) (sp := sp) (dvs := []) (E := fun _ _ _ => False) F hr hN hv hk hb .nil (fun _ _ _ _ _ _ _ z => z.elim) ha hdb hcd he hpl).run pins s σ H Q I ⟨hs, ht'⟩
def RCall (fs : List Addr) (C CC : Addr) : Addr → Sp → Prop := fun f sp => ∃ c, fs[c]? = some f ∧ sp = spU C CC c
def spOne (C CC : Addr) (_ : PySem.W.Frag) : Sp := fun vs H Q E => ∃ (c : Nat) (p a : Addr) (xs : List Nat), vs = [.ref p, nV c, .ref a] ∧ c < 24 ∧ xs.length = arity c ∧ H a = some (.lst (xs.map nV)) ∧ ∀ H1, Ex H H1 → spU C CC c (.ref p :: xs.map nV) H1 Q E
section
variable {K : PySem.W.Frag} {σ : L2.St} {H H' : Hp} {ta te : TE} {D : Ends} {tz tu : TS} {a : Addr} {ys : List V}
theorem q_len (m : Nat) (ha : Ev ta σ H (.ref a)) (hl : H a = some (.lst ys)) (h1 : ys.length = m → ∀ H1, Ex H H1 → tu { D with nx := tz D } σ H1) (h2 : ys.length ≠ m → ∀ H1, Ex H H1 → tz D σ H1) :
    tSeq (tIfS (tTest (tOp rEq (tCB (rLenS K) (tCons ta tNil)) (tC (.int (m : Int))))) tu tNext) tz D σ H :=
  q_when (et_test (ev_is (ev_op (ev_len ha (sq_of hl)) ev_c (rv_eq rfl)) bl_eq)) (fun hb => h1 (of_decide_eq_true hb)) (fun hb => h2 (of_decide_eq_false hb))
theorem ret_call {i : Nat} {R : Addr → Sp → Prop} {tA : TA} {vs : List V} {f : Addr} {sp : Sp} (hs : σ[i]? = some (some (.ref f))) (hR : R f sp) (ha : EvA tA σ H vs) (k : ∀ H1, Ex H H1 → sp vs H1 D.rt (fun _ _ _ => False)) : tRet (tCallP i R tA) D σ H :=
  ⟨f, sp, hs, hR, ha H (Ex.refl H) _ k⟩
theorem ev_nth {i : Nat} {v : V} (ha : Ev ta σ H (.ref a)) (hl : H a = some (.lst ys)) (hi : ys[i]? = some v) : Ev (tOp (rIxL K) ta (tC (.int (i : Int)))) σ H v := ev_ix ha ev_c hl hi
end
theorem arity_le : ∀ c, arity c ≤ 5 := by
  intro c
  unfold arity
  repeat' split
  all_goals decide
section
variable {P : Program} {w : World} {K : PySem.W.Frag} {mg : Str → Option Value} {base : Heap} {C CC : Addr} {fs : List Addr}
abbrev N_fr_balance : List Str := ["people", "n", "a", "b", "c", "e", "fathers_ages"]
theorem sc_fr_balance : FnScope N_fr_balance ["people", "n", "a", "b", "c", "e"] (defScope s_fr_balance) := ⟨rfl, rfl, rfl, by decide +kernel, rfl, by decide +kernel, by decide +kernel⟩
theorem ok_fr_balance {f : Addr} {fd : FuncData} (F : Fun K "fr_balance" "fr_balance" s_fr_balance f fd) (T : Txt K mg C CC fs) (c_signed : C8.Cal P w K mg base 2 "signed" spSigned []) (m_p_age_in : C8.Met P w K mg base 5 C "age_in" (spP C f_age) []) (m_p_gap : C8.Met P w K mg base 1 C "gap" (spP C f_gap) []) : FnOk P w K mg base CX0 6 f fd ["people", "n", "a", "b", "c", "e"] (spU C CC 19) := by
  refine F.ok sc_fr_balance (fun vs H Q E h => ?_) (fun cdv A outer s H vs Q E hr h => ?_)
  · exact u_len h rfl
  · obtain ⟨H0, p, d, n, a, b, c, e, rfl, D, gd, k⟩ := u_q5 Km495.Call.balance h
    have g := gd.now
    have R := D.book
    refine ⟨_, (pss_cons (ps_if (PW.pt (pw_or (pt_cmpR op_gt (pv 1) (C8.pe_gc rfl T.i_MOST_FATHERS_ASKED) (nomark _)) (pw_or1 (pt_cmpR op_gt (pe_callB (call_max4 rfl) (by rfl) T.z_max (by decide +kernel) (pa_cons (pv 2) (pa_cons (pv 3) (pa_cons (pv 4) (pa_cons (pv 5) pa_nil))))) (C8.pe_gc rfl T.i_OLDEST_FATHER_ASKED) (nomark _))))) (pss_one (ps_ret (pe_lst (pa_cons (C8.pe_gc rfl T.i_OUT_OF_BOUNDS) pa_nil)))) pss_nil)
      (pss_cons (ps_set (i := 6) sc_fr_balance.nd rfl (Or.inl rfl) (pe_slice sl_list (pe_lst (pa_cons (pv 2) (pa_cons (pv 3) (pa_cons (pv 4) (pa_cons (pv 5) pa_nil))))) po_none (po_some (pv 1))))
      (pss_one (ps_ret (pe_op op_cat (pe_lst (pa_cons (pv 1) pa_nil)) (C8.pe_c c_signed hr (by decide) (by rfl) (pa_cons (pe_op op_sub (pe_op op_add (C8.pe_mt m_p_age_in hr (by decide) (pv 0) (pa_cons pe_int pa_nil)) (pe_op op_mul (pv 1) (C8.pe_mt0 m_p_gap hr (by decide) (pv 0)))) (pe_callB (cr_sum rfl) (by rfl) T.z_sum (by decide +kernel) (pa_cons (pv 6) pa_nil))) pa_nil))))))), ?_⟩
    have mx : ∀ (σ : L2.St) (j1 j2 j3 j4 : Nat), σ[j1]? = some (some (nV a)) → σ[j2]? = some (some (nV b)) → σ[j3]? = some (some (nV c)) → σ[j4]? = some (some (nV e)) → EvT (tTest (tOp (rI0 fun i j => .bl (decide (j < i))) (tCB rMax4 (tCons (tVar j1) (tCons (tVar j2) (tCons (tVar j3) (tCons (tVar j4) tNil))))) (tC (.int 100)))) σ H (decide (100 < a ∨ 100 < b ∨ 100 < c ∨ 100 < e)) := by
      intro σ j1 j2 j3 j4 s1 s2 s3 s4 H1 e1 Q' q
      refine ⟨_, s1, _, s2, _, s3, _, s4, _, _, _, _, rfl, fun m hm hle => ?_⟩
      refine ⟨_, _, rfl, rfl, _, rfl, ?_⟩
      have z : decide ((100 : Int) < m) = decide (100 < a ∨ 100 < b ∨ 100 < c ∨ 100 < e) := decide_eq_decide.mpr (by omega)
      rw [z]
      exact q H1 (Ex.refl H1)
    refine q_when (et_or (et_test (ev_op (ev_var rfl) ev_c rv_I0)) (fun _ => mx _ 2 3 4 5 rfl rfl rfl rfl)) (fun hb H1 e1 => ?_) (fun hb H1 e1 => ?_)
    · refine refuse (ret_of k ?_) e1
      simp only [Bool.or_eq_true, decide_eq_true_eq] at hb
      show (Km495Neutral.told (if 4 < n ∨ 100 < a ∨ 100 < b ∨ 100 < c ∨ 100 < e then _ else _)).map V.int = _
      rw [if_pos (by omega)]
      rfl
    simp only [Bool.or_eq_false_iff, decide_eq_false_iff_not] at hb
    have n4 : n ≤ 4 := by omega
    refine q_asgL (el_is (el_slN (el_lst (ea_cons (ev_var rfl) (ea_cons (ev_var rfl) (ea_cons (ev_var rfl) (ea_cons (ev_var rfl) ea_nil)))) (by show 4 ≤ 100000; decide)) eo_none (eo_some (ev_var rfl))) cut_first) (fun l H2 hl e2 h2 => ?_)
    have R2 := (R.ex e1).ex e2
    have hl2 : H2 l = some (.lst ((([a, b, c, e].take n).map fun (n : Nat) => (n : Int)).map V.int)) := by
      rw [h2, List.map_map, List.map_take]
      rfl
    have len : ([a, b, c, e].take n).length = n := by
      rw [List.length_take]
      show min n 4 = n
      omega
    refine finish (el_cat (el_lst (ea_cons (ev_var rfl) ea_nil) (by show 1 ≤ 100000; decide)) (el_call0 (ea_cons (ev_int (ev_op (ev_op (ev_pm R2 [0] ⟨0, rfl, g, by have := g.n1; omega, rfl⟩ (ev_var rfl) (ea_cons ev_c ea_nil)) (ev_op (ev_var rfl) (ev_pm R2 [] ⟨rfl, g, rfl⟩ (ev_var rfl) ea_nil) (rv_I (cmul_nat (by omega)))) rv_I0) (ev_cb (ea_cons (ev_var rfl) ea_nil) (rc_sum hl2)) rv_I0) (j := d.now.after (d.now.age 0) ([a, b, c, e].take n)) ?_) ea_nil) spSigned_l) (by show 3 ≤ 100000; decide)) (ret_of k ?_) (e1.trans e2)
    · rw [after_eq, len]
    · show (Km495Neutral.told (if 4 < n ∨ 100 < a ∨ 100 < b ∨ 100 < c ∨ 100 < e then _ else _)).map V.int = _
      rw [if_neg (by omega)]
      exact told_map _ _
abbrev N_answer_one : List Str := ["people", "number", "given", "call"]
theorem sc_answer_one : FnScope N_answer_one ["people", "number", "given"] (defScope s_answer_one) := ⟨rfl, rfl, rfl, by decide +kernel, rfl, by decide +kernel, by decide +kernel⟩
theorem ok_answer_one {f : Addr} {fd : FuncData} (F : Fun K "answer_one" "answer_one" s_answer_one f fd) (T : Txt K mg C CC fs) (hfs : fs.length = 24) (hS : ∀ f sp, RCall fs C CC f sp → Held P w K mg base 7 f sp) : FnOk P w K mg base CX0 8 f fd ["people", "number", "given"] (spOne C CC K) := by
  refine F.ok sc_answer_one (fun vs H Q E h => ?_) (fun cdv A outer s H vs Q E hr h => ?_)
  · obtain ⟨c, p, a, xs, rfl, _⟩ := h
    rfl
  · obtain ⟨c, p, a, xs, rfl, hc, hl, ha, k⟩ := h
    obtain ⟨aT, uT, hm, hrel, hT⟩ := T.t_calls
    have hCALLS : ∃ u, mg "CALLS" = some u ∧ RelV (.ref aT) u := ⟨uT, hm, hrel⟩
    obtain ⟨f', hf⟩ : ∃ f', fs[c]? = some f' := ⟨fs[c], List.getElem?_eq_getElem (by omega)⟩
    have hfv : (fs.map V.ref)[c]? = some (.ref f') := by
      rw [List.getElem?_map, hf]
      rfl
    have h5 := arity_le c
    refine ⟨_, (pss_cons (ps_set (i := 3) sc_answer_one.nd rfl (Or.inl rfl) (pe_ix ix_tup (C8.pe_gc rfl hCALLS) (pv 1) (fun _ _ => rfl)))
      (pss_cons (ps_if (pt_cmpR op_eq (pe_callB call_len_seq (by rfl) T.z_len PySem.boot_len (pa_cons (pv 2) pa_nil)) pe_int (nomark _)) (pss_one (ps_ret (pe_callP (i := 3) hS hr rfl (Or.inl rfl) (pa_cons (pv 0) pa_nil)))) pss_nil)
      (pss_cons (ps_if (pt_cmpR op_eq (pe_callB call_len_seq (by rfl) T.z_len PySem.boot_len (pa_cons (pv 2) pa_nil)) pe_int (nomark _)) (pss_one (ps_ret (pe_callP (i := 3) hS hr rfl (Or.inl rfl) (pa_cons (pv 0) (pa_cons (pe_ix ix_list (pv 2) pe_int (fun _ _ => rfl)) pa_nil))))) pss_nil)
      (pss_cons (ps_if (pt_cmpR op_eq (pe_callB call_len_seq (by rfl) T.z_len PySem.boot_len (pa_cons (pv 2) pa_nil)) pe_int (nomark _)) (pss_one (ps_ret (pe_callP (i := 3) hS hr rfl (Or.inl rfl) (pa_cons (pv 0) (pa_cons (pe_ix ix_list (pv 2) pe_int (fun _ _ => rfl)) (pa_cons (pe_ix ix_list (pv 2) pe_int (fun _ _ => rfl)) pa_nil)))))) pss_nil)
      (pss_cons (ps_if (pt_cmpR op_eq (pe_callB call_len_seq (by rfl) T.z_len PySem.boot_len (pa_cons (pv 2) pa_nil)) pe_int (nomark _)) (pss_one (ps_ret (pe_callP (i := 3) hS hr rfl (Or.inl rfl) (pa_cons (pv 0) (pa_cons (pe_ix ix_list (pv 2) pe_int (fun _ _ => rfl)) (pa_cons (pe_ix ix_list (pv 2) pe_int (fun _ _ => rfl)) (pa_cons (pe_ix ix_list (pv 2) pe_int (fun _ _ => rfl)) pa_nil))))))) pss_nil)
      (pss_cons (ps_if (pt_cmpR op_eq (pe_callB call_len_seq (by rfl) T.z_len PySem.boot_len (pa_cons (pv 2) pa_nil)) pe_int (nomark _)) (pss_one (ps_ret (pe_callP (i := 3) hS hr rfl (Or.inl rfl) (pa_cons (pv 0) (pa_cons (pe_ix ix_list (pv 2) pe_int (fun _ _ => rfl)) (pa_cons (pe_ix ix_list (pv 2) pe_int (fun _ _ => rfl)) (pa_cons (pe_ix ix_list (pv 2) pe_int (fun _ _ => rfl)) (pa_cons (pe_ix ix_list (pv 2) pe_int (fun _ _ => rfl)) pa_nil)))))))) pss_nil)
      (pss_one (ps_ret (pe_callP (i := 3) hS hr rfl (Or.inl rfl) (pa_cons (pv 0) (pa_cons (pe_ix ix_list (pv 2) pe_int (fun _ _ => rfl)) (pa_cons (pe_ix ix_list (pv 2) pe_int (fun _ _ => rfl)) (pa_cons (pe_ix ix_list (pv 2) pe_int (fun _ _ => rfl)) (pa_cons (pe_ix ix_list (pv 2) pe_int (fun _ _ => rfl)) (pa_cons (pe_ix ix_list (pv 2) pe_int (fun _ _ => rfl)) pa_nil))))))))))))))), ?_⟩
    refine q_asg (ev_op ev_c (ev_var rfl) (rv_ixT (hT H) (atI_nat hfv))) (fun H1 e1 => ?_)
    match xs, hl, ha, k with
    | [], hl, ha, k =>
      have h0 : H1 a = some (.lst ([].map nV)) := e1 _ _ ha
      refine q_len 0 (ev_var rfl) h0 (fun _ KK ff => ?_) (fun z => absurd rfl z)
      have hh := ff _ _ h0
      exact ret_call (f := f') rfl ⟨c, hf, rfl⟩ (ea_cons (ev_var rfl) ea_nil) (fun H3 e3 => k H3 (((e1).trans ff).trans e3))
    | [x0], hl, ha, k =>
      have h0 : H1 a = some (.lst ([x0].map nV)) := e1 _ _ ha
      refine q_len 0 (ev_var rfl) h0 (fun z => absurd z (by simp)) (fun _ K0 f0 => ?_)
      have g0 := f0 _ _ h0
      have E0 := (e1).trans f0
      refine q_len 1 (ev_var rfl) g0 (fun _ KK ff => ?_) (fun z => absurd rfl z)
      have hh := ff _ _ g0
      exact ret_call (f := f') rfl ⟨c, hf, rfl⟩ (ea_cons (ev_var rfl) (ea_cons (ev_nth (i := 0) (ev_var rfl) hh rfl) ea_nil)) (fun H3 e3 => k H3 (((E0).trans ff).trans e3))
    | [x0, x1], hl, ha, k =>
      have h0 : H1 a = some (.lst ([x0, x1].map nV)) := e1 _ _ ha
      refine q_len 0 (ev_var rfl) h0 (fun z => absurd z (by simp)) (fun _ K0 f0 => ?_)
      have g0 := f0 _ _ h0
      have E0 := (e1).trans f0
      refine q_len 1 (ev_var rfl) g0 (fun z => absurd z (by simp)) (fun _ K1 f1 => ?_)
      have g1 := f1 _ _ g0
      have E1 := (E0).trans f1
      refine q_len 2 (ev_var rfl) g1 (fun _ KK ff => ?_) (fun z => absurd rfl z)
      have hh := ff _ _ g1
      exact ret_call (f := f') rfl ⟨c, hf, rfl⟩ (ea_cons (ev_var rfl) (ea_cons (ev_nth (i := 0) (ev_var rfl) hh rfl) (ea_cons (ev_nth (i := 1) (ev_var rfl) hh rfl) ea_nil))) (fun H3 e3 => k H3 (((E1).trans ff).trans e3))
    | [x0, x1, x2], hl, ha, k =>
      have h0 : H1 a = some (.lst ([x0, x1, x2].map nV)) := e1 _ _ ha
      refine q_len 0 (ev_var rfl) h0 (fun z => absurd z (by simp)) (fun _ K0 f0 => ?_)
      have g0 := f0 _ _ h0
      have E0 := (e1).trans f0
      refine q_len 1 (ev_var rfl) g0 (fun z => absurd z (by simp)) (fun _ K1 f1 => ?_)
      have g1 := f1 _ _ g0
      have E1 := (E0).trans f1
      refine q_len 2 (ev_var rfl) g1 (fun z => absurd z (by simp)) (fun _ K2 f2 => ?_)
      have g2 := f2 _ _ g1
      have E2 := (E1).trans f2
      refine q_len 3 (ev_var rfl) g2 (fun _ KK ff => ?_) (fun z => absurd rfl z)
      have hh := ff _ _ g2
      exact ret_call (f := f') rfl ⟨c, hf, rfl⟩ (ea_cons (ev_var rfl) (ea_cons (ev_nth (i := 0) (ev_var rfl) hh rfl) (ea_cons (ev_nth (i := 1) (ev_var rfl) hh rfl) (ea_cons (ev_nth (i := 2) (ev_var rfl) hh rfl) ea_nil)))) (fun H3 e3 => k H3 (((E2).trans ff).trans e3))
    | [x0, x1, x2, x3], hl, ha, k =>
      have h0 : H1 a = some (.lst ([x0, x1, x2, x3].map nV)) := e1 _ _ ha
      refine q_len 0 (ev_var rfl) h0 (fun z => absurd z (by simp)) (fun _ K0 f0 => ?_)
      have g0 := f0 _ _ h0
      have E0 := (e1).trans f0
      refine q_len 1 (ev_var rfl) g0 (fun z => absurd z (by simp)) (fun _ K1 f1 => ?_)
      have g1 := f1 _ _ g0
      have E1 := (E0).trans f1
      refine q_len 2 (ev_var rfl) g1 (fun z => absurd z (by simp)) (fun _ K2 f2 => ?_)
      have g2 := f2 _ _ g1
      have E2 := (E1).trans f2
      refine q_len 3 (ev_var rfl) g2 (fun z => absurd z (by simp)) (fun _ K3 f3 => ?_)
      have g3 := f3 _ _ g2
      have E3 := (E2).trans f3
      refine q_len 4 (ev_var rfl) g3 (fun _ KK ff => ?_) (fun z => absurd rfl z)
      have hh := ff _ _ g3
      exact ret_call (f := f') rfl ⟨c, hf, rfl⟩ (ea_cons (ev_var rfl) (ea_cons (ev_nth (i := 0) (ev_var rfl) hh rfl) (ea_cons (ev_nth (i := 1) (ev_var rfl) hh rfl) (ea_cons (ev_nth (i := 2) (ev_var rfl) hh rfl) (ea_cons (ev_nth (i := 3) (ev_var rfl) hh rfl) ea_nil))))) (fun H3 e3 => k H3 (((E3).trans ff).trans e3))
    | [x0, x1, x2, x3, x4], hl, ha, k =>
      have h0 : H1 a = some (.lst ([x0, x1, x2, x3, x4].map nV)) := e1 _ _ ha
      refine q_len 0 (ev_var rfl) h0 (fun z => absurd z (by simp)) (fun _ K0 f0 => ?_)
      have g0 := f0 _ _ h0
      have E0 := (e1).trans f0
      refine q_len 1 (ev_var rfl) g0 (fun z => absurd z (by simp)) (fun _ K1 f1 => ?_)
      have g1 := f1 _ _ g0
      have E1 := (E0).trans f1
      refine q_len 2 (ev_var rfl) g1 (fun z => absurd z (by simp)) (fun _ K2 f2 => ?_)
      have g2 := f2 _ _ g1
      have E2 := (E1).trans f2
      refine q_len 3 (ev_var rfl) g2 (fun z => absurd z (by simp)) (fun _ K3 f3 => ?_)
      have g3 := f3 _ _ g2
      have E3 := (E2).trans f3
      refine q_len 4 (ev_var rfl) g3 (fun z => absurd z (by simp)) (fun _ K4 f4 => ?_)
      have g4 := f4 _ _ g3
      have E4 := (E3).trans f4
      have hh := g4
      exact ret_call (f := f') rfl ⟨c, hf, rfl⟩ (ea_cons (ev_var rfl) (ea_cons (ev_nth (i := 0) (ev_var rfl) hh rfl) (ea_cons (ev_nth (i := 1) (ev_var rfl) hh rfl) (ea_cons (ev_nth (i := 2) (ev_var rfl) hh rfl) (ea_cons (ev_nth (i := 3) (ev_var rfl) hh rfl) (ea_cons (ev_nth (i := 4) (ev_var rfl) hh rfl) ea_nil)))))) (fun H3 e3 => k H3 ((E4).trans e3))
    | _ :: _ :: _ :: _ :: _ :: _ :: r, hl, _, _ =>
      simp only [List.length_cons] at hl
      omega
end
end Fs
namespace Fs
open PySem PySem.Spec PyProof.Rows L2 Evl
open Km495 (Book Desk Man)

theorem DeskAt.grow {C CC p l : Addr} {H0 H H' : Hp} {d : Desk} {o : HO} (D : DeskAt C CC H0 H p d) (hl : H l = none) (e : Ex H H') (h : H' l = some o) : DeskAt C CC (upd H0 l o) H' p d := by
  have D' := D.same e
  obtain ⟨dx, c, dc, lf, lb, le, ll, ps, fs, L⟩ := D
  have ne : ∀ a ∈ p :: c :: lf :: lb :: le :: ll :: (own ps ++ own fs), a ≠ l := fun a ha z => by
    have q : ∃ u, H a = some u := by
      rcases List.mem_cons.mp ha with q | ha
      · exact ⟨_, by rw [q]; exact L.hp⟩
      rcases List.mem_cons.mp ha with q | ha
      · exact ⟨_, by rw [q]; exact L.hc⟩
      obtain ⟨xs, q⟩ := L.trk a ha
      exact ⟨_, q⟩
    obtain ⟨u, q⟩ := q
    rw [z, hl] at q
    cases q
  refine ⟨dx, c, dc, lf, lb, le, ll, ps, fs, ?_, e _ _ L.hp, e _ _ L.hc, e _ _ L.hf, e _ _ L.hb, e _ _ L.he, e _ _ L.hl, fun x hx => (L.hps x hx).same e, fun x hx => (L.hfs x hx).same e, L.ep, L.ef, L.nd, fun a ha => ?_⟩
  · intro a u q
    by_cases z : a = l
    · rw [z, upd_same] at q
      rw [z, h]
      exact q
    · rw [upd_ne z] at q
      exact e _ _ (L.ex _ _ q)
  · rw [upd_ne (ne a ha)]
    exact L.fr a ha
theorem given_at : ∀ c, c < 24 → givenV[c]? = some (nV (arity c)) := by
  intro c h
  match c, h with
  | 0, _ => rfl
  | 1, _ => rfl
  | 2, _ => rfl
  | 3, _ => rfl
  | 4, _ => rfl
  | 5, _ => rfl
  | 6, _ => rfl
  | 7, _ => rfl
  | 8, _ => rfl
  | 9, _ => rfl
  | 10, _ => rfl
  | 11, _ => rfl
  | 12, _ => rfl
  | 13, _ => rfl
  | 14, _ => rfl
  | 15, _ => rfl
  | 16, _ => rfl
  | 17, _ => rfl
  | 18, _ => rfl
  | 19, _ => rfl
  | 20, _ => rfl
  | 21, _ => rfl
  | 22, _ => rfl
  | 23, _ => rfl
  | c + 24, h => omega
theorem short_ans {l : List Int} (h : PyKm495.answers_asked l = true) : (PyKm495.answers l).length ≤ 10000000 := by
  unfold PyKm495.answers_asked at h
  cases e : PyFlat.calls PyKm495.shape l.length l with
  | none =>
    rw [e] at h
    cases h
  | some raw =>
    rw [e] at h
    rw [Bool.and_eq_true] at h
    exact of_decide_eq_true h.2
theorem cut_mid {xs ys zs : List V} {n m : Nat} (hx : xs.length = n) (hy : ys.length = m) : cutV (xs ++ (ys ++ zs)) (some (n : Int)) (some ((n + m : Nat) : Int)) = ys := by
  subst hx hy
  unfold cutV
  rw [HT.sIx_nat, HT.sIx_nat, List.length_append, List.length_append, Nat.min_eq_left (by omega), Nat.min_eq_left (by omega), List.drop_left, Nat.add_sub_cancel_left, List.take_left]
section
variable {K : PySem.W.Frag} {σ : L2.St} {H H' : Hp} {ta te : TE} {D : Ends} {tz : TS} {l b : Addr} {xs zs : List V} {v : V}
theorem q_appZ (hl : H l = some (.lst xs)) (ha : Ev ta σ H (.ref l)) (h : Ev te σ H v) (hz : xs.length < sizeLine) (k : ∀ H1, Ex H H1 → tz D σ (upd H1 l (.lst (xs ++ [v])))) : tSeq (tDrop (tBM K "list" rAppend ta (tCons te tNil))) tz D σ H :=
  ha H (Ex.refl H) _ fun H1 e1 => ⟨Or.inl ⟨rfl, xs, sq_of (e1 l _ hl)⟩, h H1 e1 _ fun H2 e2 => ⟨l, xs, v, rfl, rfl, e2 l _ (e1 l _ hl), hz, k H2 (e1.trans e2)⟩⟩
theorem q_ext (hl : H l = some (.lst xs)) (hb : H b = some (.lst zs)) (ha : Ev ta σ H (.ref l)) (h : Ev te σ H (.ref b)) (hz : xs.length + zs.length ≤ sizeLine) (k : ∀ H1, Ex H H1 → tz D σ (upd H1 l (.lst (xs ++ zs)))) : tSeq (tDrop (tBM K "list" rExtend ta (tCons te tNil))) tz D σ H :=
  ha H (Ex.refl H) _ fun H1 e1 => ⟨Or.inl ⟨rfl, xs, sq_of (e1 l _ hl)⟩, h H1 e1 _ fun H2 e2 => ⟨l, b, xs, zs, rfl, rfl, e2 l _ (e1 l _ hl), e2 b _ (e1 b _ hb), hz, k H2 (e1.trans e2)⟩⟩
theorem q_asgCall {i : Nat} {sp : Sp} {E : XK} {tA : TA} (h : tA σ H fun vs H1 => sp (vs ++ []) H1 (fun x H2 => tz D (σ.set i (some x)) H2) E) : tSeq (tAsg (tCall sp [] E tA) (gName i)) tz D σ H := h
end
/-- between two turns -/
def Turn (C CC : Addr) (ns : List Int) (Hs : Hp) (a x l : Addr) (m : Nat) (σ : L2.St) (H : Hp) : Prop :=
  ∃ (s : Km495Neutral.S) (place n : Nat) (out rest : List Int) (H0 : Hp) (v4 v5 v6 : Option V), σ = [some (.ref a), some (.ref x), some (.ref l), some (nV place), v4, v5, v6] ∧ m = ns.length - place ∧ place ≤ ns.length ∧
    Rest s (ns.drop place) rest n ∧ out ++ rest = PyKm495.answers ns ∧ Ex Hs H0 ∧ H0 l = some (.lst (out.map V.int)) ∧ DeskAt C CC H0 H x (rep s) ∧ GoodS s
section
variable {P : Program} {w : World} {K : PySem.W.Frag} {mg : Str → Option Value} {base : Heap} {C CC : Addr} {fs : List Addr}
abbrev N_answers : List Str := ["calls", "people", "told", "place", "number", "following", "answer"]
theorem sc_answers : FnScope N_answers ["calls"] (defScope s_answers) := ⟨rfl, rfl, rfl, by decide +kernel, rfl, by decide +kernel, by decide +kernel⟩
theorem ok_answers {f : Addr} {fd : FuncData} (F : Fun K "answers" "answers" s_answers f fd) (T : Txt K mg C CC fs) (c_answer_one : C8.Cal P w K mg base 8 "answer_one" (spOne C CC K) []) (k_p_init : Mak0 P w K mg base 3 "People" C (spPInit C CC)) : FnOk P w K mg base CX0 9 f fd ["calls"] (spAns K) := by
  refine F.ok sc_answers (fun vs H Q E h => ?_) (fun cdv A outer s H vs Q E hr h => ?_)
  · obtain ⟨a, ns, rfl, _⟩ := h
    rfl
  · obtain ⟨a, ns, rfl, hS, hlen, hask, k⟩ := h
    obtain ⟨aG, uG, hm, hrel, hG⟩ := T.t_given
    have hGIVEN : ∃ u, mg "GIVEN" = some u ∧ RelV (.ref aG) u := ⟨uG, hm, hrel⟩
    have hshort := short_ans hask
    refine ⟨_, (pss_cons (ps_set (i := 1) sc_answers.nd rfl (Or.inl rfl) (pe_mk0 k_p_init hr (by decide) rfl))
      (pss_cons (ps_set (i := 2) sc_answers.nd rfl (Or.inl rfl) (pe_lst pa_nil))
      (pss_cons (ps_set (i := 3) sc_answers.nd rfl (Or.inl rfl) pe_int)
      (pss_cons (ps_while PassesOwn.never (pt_cmpR op_lt (pv 3) (pe_callB call_len_seq (by rfl) T.z_len PySem.boot_len (pa_cons (pv 0) pa_nil)) (nomark _)) (pss_cons (ps_set (i := 4) sc_answers.nd rfl (Or.inl rfl) (pe_ix ix_list (pv 0) (pv 3) (fun _ _ => rfl)))
      (pss_cons (ps_set (i := 5) sc_answers.nd rfl (Or.inl rfl) (pe_op op_add (pe_op op_add (pv 3) pe_int) (pe_ix ix_tup (C8.pe_gc rfl hGIVEN) (pv 4) (fun _ _ => rfl))))
      (pss_cons (ps_set (i := 6) sc_answers.nd rfl (Or.inl rfl) (C8.pe_c c_answer_one hr (by decide) (by rfl) (pa_cons (pv 1) (pa_cons (pv 4) (pa_cons (pe_slice sl_list (pv 0) (po_some (pe_op op_add (pv 3) pe_int)) (po_some (pv 5))) pa_nil)))))
      (pss_cons (ps_expr (pe_bm PySem.F.plainAttrs_list PySem.F.slot_list_append PySem.F.type_list_append mt_append (pv 2) (pa_cons (pe_callB call_len_seq (by rfl) T.z_len PySem.boot_len (pa_cons (pv 6) pa_nil)) pa_nil)))
      (pss_cons (ps_expr (pe_bm PySem.F.plainAttrs_list PySem.F.slot_list_extend PySem.F.type_list_extend mt_extend (pv 2) (pa_cons (pv 6) pa_nil)))
      (pss_one (ps_set (i := 3) sc_answers.nd rfl (Or.inl rfl) (pv 5)))))))))
      (pss_one (ps_ret (pv 2))))))), ?_⟩
    intro x dx nx nd ne
    have s0 : Ex H (upd (upd H dx (.own x)) x (.ins C dx [])) := fun b o q => by
      rw [upd_ne (ne_of_none q nx), upd_ne (ne_of_none q nd)]
      exact q
    refine ⟨H, x, dx, rfl, s0, nx, upd_same, fun H1 D1 => ⟨rfl, ?_⟩⟩
    refine q_asgL (el_lst ea_nil (by show 0 ≤ 100000; decide)) (fun l H2 hl e2 h2 => ?_)
    have hlH : H l = none := fresh_back D1.ex hl
    refine q_asg ev_c (fun H3 e3 => ?_)
    refine q_while (Turn C CC ns H a x l) ns.length ⟨Km495Neutral.start, 0, 1000, [], PyKm495.answers ns, upd H l (.lst []), none, none, none, rfl, rfl, Nat.zero_le _, rest_start hask, rfl, Ex.new hlH, upd_same, D1.grow hl (e2.trans e3) (e3 _ _ h2), trivial⟩ ?_
    rintro m σ' H' ⟨s, place, n, out, rest, H0, v4, v5, v6, rfl, rfl, hp, hR, hout, eH, hl0, D, gs⟩
    have eH' : Ex H H' := eH.trans D.ex
    have hS' : SqL K H' a (ns.map V.int) := ex_l eH' hS
    refine ⟨_, et_test (ev_is (ev_op (ev_var rfl) (ev_len (ev_var rfl) hS') rv_I0) bl_lt), fun hb H4 e4 => ?_, fun hb H4 e4 => ?_⟩
    · have hlt : place < ns.length := by
        have := of_decide_eq_true hb
        rw [List.length_map] at this
        exact this
      have hd : ns.drop place = ns[place] :: ns.drop (place + 1) := List.drop_eq_getElem_cons hlt
      rw [hd] at hR
      obtain ⟨c, xs, t, out', hc, hpc, hxl, ht, hU, hne, _, ho, hR'⟩ := rest_cons hR
      -- the call's numbers, as they are
      obtain ⟨ys, hys⟩ : ∃ ys : List Nat, xs = ys.map fun (n : Nat) => (n : Int) := by
        refine ⟨xs.map Int.toNat, ?_⟩
        rw [List.map_map]
        refine (List.map_id xs).symm.trans (List.map_congr_left fun z hz => ?_)
        have := (hU z hz).1
        show z = ((z.toNat : Nat) : Int)
        omega
      subst hys
      have hyl : ys.length = arity c := by
        rw [List.length_map] at hxl
        exact hxl
      refine ⟨_, fun σ2 H2 h => h, ?_⟩
      have hnum : (ns.map V.int)[place]? = some (nV c) := by
        rw [List.getElem?_map, List.getElem?_eq_getElem hlt, hpc]
        rfl
      refine q_asg (ev_op (ev_var rfl) (ev_var rfl) (rv_ixL (ex_l e4 hS') (atI_nat hnum))) (fun H5 e5 => ?_)
      have E5 := e4.trans e5
      refine q_asg (ev_is (ev_op (ev_op (ev_var rfl) ev_c rv_I0) (ev_op ev_c (ev_var rfl) (rv_ixT (hG H5) (atI_nat (given_at c hc)))) rv_I0) (show V.int ((place : Int) + 1 + ((arity c : Nat) : Int)) = nV (place + 1 + arity c) from rfl)) (fun H6 e6 => ?_)
      have E6 := E5.trans e6
      have split : ns.map V.int = (ns.take (place + 1)).map V.int ++ (ys.map nV ++ t.map V.int) := by
        have q : ns = ns.take (place + 1) ++ ((ys.map fun (n : Nat) => (n : Int)) ++ t) := by
          rw [← ht, List.take_append_drop]
        refine (congrArg (List.map V.int) q).trans ?_
        rw [List.map_append, List.map_append, List.map_map]
        rfl
      have tk : ((ns.take (place + 1)).map V.int).length = place + 1 := by
        rw [List.length_map, List.length_take]
        omega
      refine q_asgCall (c_ev (ev_var rfl) (fun H7 e7 => c_ev (ev_var rfl) (fun H8 e8 => c_evL (el_is (ys := ys.map nV) (el_sl (lo := some ((place + 1 : Nat) : Int)) (hi := some ((place + 1 + arity c : Nat) : Int)) (ev_var rfl) (eo_some (ev_op (ev_var rfl) ev_c rv_I0)) (eo_some (ev_var rfl)) (ex_l ((E6.trans e7).trans e8) hS')) (by
        rw [split]
        exact cut_mid tk (by rw [List.length_map]; exact hyl))) (fun g H9 hg e9 h9 => ?_))))
      have E9 := ((E6.trans e7).trans e8).trans e9
      refine ⟨c, x, g, ys, rfl, hc, hyl, h9, fun H10 e10 => ⟨H0, x, s, ys, rfl, hyl, D.same (E9.trans e10), gs, hne, fun q H11 hq D11 g11 h11 => ?_⟩⟩
      -- told.append(len(answer)); told.extend(answer)
      have hql : q ≠ l := fun z => by
        rw [z, hl0] at hq
        cases hq
      have total : out.length + (1 + (Km495Neutral.step s (callL c ys)).2.length) ≤ 10000000 := by
        have z := congrArg List.length hout
        rw [ho, List.length_append, List.length_append, List.length_cons] at z
        have w : (Km495Neutral.step s (callL c ys)).2.length = (Km495Neutral.step s [(c : Int) :: ys.map fun (n : Nat) => (n : Int)]).2.length := rfl
        omega
      have big : (10000000 : Nat) < sizeLine := by decide
      refine q_appZ (l := l) (xs := out.map V.int) (D11.ex _ _ hl0) (ev_var rfl) (ev_len (ev_var rfl) (sq_of h11)) (by rw [List.length_map]; omega) (fun H12 e12 => ?_)
      have D12 : DeskAt C CC (upd H0 l _) (upd H12 l (.lst (out.map V.int ++ [V.int (((Km495Neutral.step s (callL c ys)).2.map V.int).length : Int)]))) x (rep (Km495Neutral.step s (callL c ys)).1) := (D11.same e12).frame hl0
      refine q_ext (l := l) (b := q) (xs := out.map V.int ++ [V.int (((Km495Neutral.step s (callL c ys)).2.map V.int).length : Int)]) (zs := (Km495Neutral.step s (callL c ys)).2.map V.int) upd_same (by rw [upd_ne hql]; exact e12 _ _ h11) (ev_var rfl) (ev_var rfl) (by rw [List.length_append, List.length_map, List.length_map, List.length_singleton]; omega) (fun H13 e13 => ?_)
      have D13 := (D12.same e13).frame (o := .lst (out.map V.int ++ [V.int (((Km495Neutral.step s (callL c ys)).2.map V.int).length : Int)] ++ (Km495Neutral.step s (callL c ys)).2.map V.int)) (q := l) upd_same
      refine s_asg (ev_var rfl) (fun H14 e14 => ?_)
      have hpl : place + 1 + arity c ≤ ns.length := by
        have z := congrArg List.length ht
        rw [List.length_drop, List.length_append, List.length_map] at z
        omega
      refine ⟨ns.length - (place + 1 + arity c), by omega, (Km495Neutral.step s (callL c ys)).1, place + 1 + arity c, n - 1, out ++ (((Km495Neutral.step s (callL c ys)).2.length : Nat) : Int) :: (Km495Neutral.step s (callL c ys)).2, out', _, _, _, _, rfl, rfl, hpl, ?_, ?_, ?_, ?_, D13.same e14, g11⟩
      · have z : ns.drop (place + 1 + arity c) = t := by
          rw [← List.drop_drop, ht, ← hxl, List.drop_left]
        rw [z]
        exact hR'
      · rw [← hout, ho, List.append_assoc]
        rfl
      · intro b o q'
        have nb : b ≠ l := ne_of_none q' hlH
        rw [upd_ne nb, upd_ne nb]
        exact eH _ _ q'
      · rw [upd_same, List.map_append, List.length_map, List.append_assoc]
        rfl
    · have hge : ¬ place < ns.length := by
        have := of_decide_eq_false hb
        rw [List.length_map] at this
        exact this
      have hd : ns.drop place = [] := List.drop_eq_nil_of_le (by omega)
      rw [hd] at hR
      have hr0 := rest_nil hR
      rw [hr0, List.append_nil] at hout
      rw [hout] at hl0
      exact s_ret (ev_var rfl) (fun H5 e5 => k H5 l (e5 _ _ (e4 _ _ (D.ex _ _ hl0))))
end
end Fs
namespace Fs
open PySem PySem.Spec PyProof.Rows L2 Evl
open Km495 (Book Desk Man)
theorem all_mk {P : Program} {w : World} {K : PySem.W.Frag} {h : Heap} {mg : Str → Option Value} {fa : Addr} {f_c_init f_c_note f_c_step_back f_c_step_on f_c_how_many_back f_c_how_many_again f_p_init f_p_begin f_p_how_many f_p_has f_p_standing f_p_stand_as f_p_add_son f_p_drop_last f_p_put_behind f_p_take_back f_p_do_again f_p_line_of f_p_fathers_above f_p_sons_of f_p_gap f_p_sets_behind_first f_p_of_one_set f_p_year_in f_p_age_in f_p_grade_in f_as_number f_signed f_as_set f_between f_grade_or_refusal f_fr_start f_fr_son f_fr_drop f_fr_behind f_fr_enters f_fr_age f_fr_grade f_fr_born_into f_fr_fathers f_fr_drift f_fr_line f_fr_in_step f_fr_too_old f_fr_too_young f_fr_sons f_fr_window f_fr_mean f_fr_together f_fr_elder f_fr_balance f_fr_told f_fr_back f_fr_again f_fr_state f_answer_one f_answers C CC aT aG : Addr}
    {t_MOST_TAKEN_BACK t_NOT_THERE t_FIRST_ALONE t_ALREADY_SO t_OUT_OF_BOUNDS t_TOO_MANY t_HAS_NONE t_MOST_YEARS_A_TERM t_MOST_SETS_BEHIND t_MOST_GRADES t_LATEST_FIRST_SET t_LATEST_BIRTH t_LATEST_YEAR_ASKED t_HIGHEST_AGE_ASKED t_OLDEST_FATHER_ASKED t_MOST_FATHERS_ASKED t_MOST_MEN : Nat} {odT odG : Option Addr} {itT itG : Array Value} {nT nG : Nat} {slT slG : Array (Option Value)}
    (X : K.In h) (G : h.Ns mainGlobals mg) (hfa : mg "answers" = some (.ref fa))
    (kC : KCls K C)
    (nC : PySem.W.nsIn K mainGlobals "People" = some (some (.ref C)))
    (kCC : KCls K CC)
    (nCC : PySem.W.nsIn K mainGlobals "Changes" = some (some (.ref CC)))
    (g_c_init : MFn K CC "__init__" "Changes.__init__" s_c_init f_c_init)
    (g_c_note : MFn K CC "note" "Changes.note" s_c_note f_c_note)
    (g_c_step_back : MFn K CC "step_back" "Changes.step_back" s_c_step_back f_c_step_back)
    (g_c_step_on : MFn K CC "step_on" "Changes.step_on" s_c_step_on f_c_step_on)
    (g_c_how_many_back : MFn K CC "how_many_back" "Changes.how_many_back" s_c_how_many_back f_c_how_many_back)
    (g_c_how_many_again : MFn K CC "how_many_again" "Changes.how_many_again" s_c_how_many_again f_c_how_many_again)
    (g_p_init : MFn K C "__init__" "People.__init__" s_p_init f_p_init)
    (g_p_begin : MFn K C "begin" "People.begin" s_p_begin f_p_begin)
    (g_p_how_many : MFn K C "how_many" "People.how_many" s_p_how_many f_p_how_many)
    (g_p_has : MFn K C "has" "People.has" s_p_has f_p_has)
    (g_p_standing : MFn K C "standing" "People.standing" s_p_standing f_p_standing)
    (g_p_stand_as : MFn K C "stand_as" "People.stand_as" s_p_stand_as f_p_stand_as)
    (g_p_add_son : MFn K C "add_son" "People.add_son" s_p_add_son f_p_add_son)
    (g_p_drop_last : MFn K C "drop_last" "People.drop_last" s_p_drop_last f_p_drop_last)
    (g_p_put_behind : MFn K C "put_behind" "People.put_behind" s_p_put_behind f_p_put_behind)
    (g_p_take_back : MFn K C "take_back" "People.take_back" s_p_take_back f_p_take_back)
    (g_p_do_again : MFn K C "do_again" "People.do_again" s_p_do_again f_p_do_again)
    (g_p_line_of : MFn K C "line_of" "People.line_of" s_p_line_of f_p_line_of)
    (g_p_fathers_above : MFn K C "fathers_above" "People.fathers_above" s_p_fathers_above f_p_fathers_above)
    (g_p_sons_of : MFn K C "sons_of" "People.sons_of" s_p_sons_of f_p_sons_of)
    (g_p_gap : MFn K C "gap" "People.gap" s_p_gap f_p_gap)
    (g_p_sets_behind_first : MFn K C "sets_behind_first" "People.sets_behind_first" s_p_sets_behind_first f_p_sets_behind_first)
    (g_p_of_one_set : MFn K C "of_one_set" "People.of_one_set" s_p_of_one_set f_p_of_one_set)
    (g_p_year_in : MFn K C "year_in" "People.year_in" s_p_year_in f_p_year_in)
    (g_p_age_in : MFn K C "age_in" "People.age_in" s_p_age_in f_p_age_in)
    (g_p_grade_in : MFn K C "grade_in" "People.grade_in" s_p_grade_in f_p_grade_in)
    (g_as_number : GFn K "as_number" s_as_number f_as_number)
    (g_signed : GFn K "signed" s_signed f_signed)
    (g_as_set : GFn K "as_set" s_as_set f_as_set)
    (g_between : GFn K "between" s_between f_between)
    (g_grade_or_refusal : GFn K "grade_or_refusal" s_grade_or_refusal f_grade_or_refusal)
    (g_fr_start : GFn K "fr_start" s_fr_start f_fr_start)
    (g_fr_son : GFn K "fr_son" s_fr_son f_fr_son)
    (g_fr_drop : GFn K "fr_drop" s_fr_drop f_fr_drop)
    (g_fr_behind : GFn K "fr_behind" s_fr_behind f_fr_behind)
    (g_fr_enters : GFn K "fr_enters" s_fr_enters f_fr_enters)
    (g_fr_age : GFn K "fr_age" s_fr_age f_fr_age)
    (g_fr_grade : GFn K "fr_grade" s_fr_grade f_fr_grade)
    (g_fr_born_into : GFn K "fr_born_into" s_fr_born_into f_fr_born_into)
    (g_fr_fathers : GFn K "fr_fathers" s_fr_fathers f_fr_fathers)
    (g_fr_drift : GFn K "fr_drift" s_fr_drift f_fr_drift)
    (g_fr_line : GFn K "fr_line" s_fr_line f_fr_line)
    (g_fr_in_step : GFn K "fr_in_step" s_fr_in_step f_fr_in_step)
    (g_fr_too_old : GFn K "fr_too_old" s_fr_too_old f_fr_too_old)
    (g_fr_too_young : GFn K "fr_too_young" s_fr_too_young f_fr_too_young)
    (g_fr_sons : GFn K "fr_sons" s_fr_sons f_fr_sons)
    (g_fr_window : GFn K "fr_window" s_fr_window f_fr_window)
    (g_fr_mean : GFn K "fr_mean" s_fr_mean f_fr_mean)
    (g_fr_together : GFn K "fr_together" s_fr_together f_fr_together)
    (g_fr_elder : GFn K "fr_elder" s_fr_elder f_fr_elder)
    (g_fr_balance : GFn K "fr_balance" s_fr_balance f_fr_balance)
    (g_fr_told : GFn K "fr_told" s_fr_told f_fr_told)
    (g_fr_back : GFn K "fr_back" s_fr_back f_fr_back)
    (g_fr_again : GFn K "fr_again" s_fr_again f_fr_again)
    (g_fr_state : GFn K "fr_state" s_fr_state f_fr_state)
    (g_answer_one : GFn K "answer_one" s_answer_one f_answer_one)
    (g_answers : GFn K "answers" s_answers f_answers)
    (x_term : PySem.W.findIn K (.ref C) "term" = some none)
    (x_behind : PySem.W.findIn K (.ref C) "behind" = some none)
    (x_grades : PySem.W.findIn K (.ref C) "grades" = some none)
    (x_first_year : PySem.W.findIn K (.ref C) "first_year" = some none)
    (x_fathers : PySem.W.findIn K (.ref C) "fathers" = some none)
    (x_births : PySem.W.findIn K (.ref C) "births" = some none)
    (x_changes : PySem.W.findIn K (.ref C) "changes" = some none)
    (x_earlier : PySem.W.findIn K (.ref CC) "earlier" = some none)
    (x_later : PySem.W.findIn K (.ref CC) "later" = some none)
    (z_len : PySem.W.nsIn K mainGlobals "len" = some none)
    (z_abs : PySem.W.nsIn K mainGlobals "abs" = some none)
    (z_sum : PySem.W.nsIn K mainGlobals "sum" = some none)
    (z_max : PySem.W.nsIn K mainGlobals "max" = some none)
    (z_range : PySem.W.nsIn K mainGlobals "range" = some none)
    (z_list : PySem.W.nsIn K mainGlobals "list" = some none)
    (i_MOST_TAKEN_BACK : PySem.W.nsIn K mainGlobals "MOST_TAKEN_BACK" = some (some (.int (20) t_MOST_TAKEN_BACK)))
    (i_NOT_THERE : PySem.W.nsIn K mainGlobals "NOT_THERE" = some (some (.int (-2) t_NOT_THERE)))
    (i_FIRST_ALONE : PySem.W.nsIn K mainGlobals "FIRST_ALONE" = some (some (.int (-6) t_FIRST_ALONE)))
    (i_ALREADY_SO : PySem.W.nsIn K mainGlobals "ALREADY_SO" = some (some (.int (-17) t_ALREADY_SO)))
    (i_OUT_OF_BOUNDS : PySem.W.nsIn K mainGlobals "OUT_OF_BOUNDS" = some (some (.int (-22) t_OUT_OF_BOUNDS)))
    (i_TOO_MANY : PySem.W.nsIn K mainGlobals "TOO_MANY" = some (some (.int (-28) t_TOO_MANY)))
    (i_HAS_NONE : PySem.W.nsIn K mainGlobals "HAS_NONE" = some (some (.int (-33) t_HAS_NONE)))
    (i_MOST_YEARS_A_TERM : PySem.W.nsIn K mainGlobals "MOST_YEARS_A_TERM" = some (some (.int (20) t_MOST_YEARS_A_TERM)))
    (i_MOST_SETS_BEHIND : PySem.W.nsIn K mainGlobals "MOST_SETS_BEHIND" = some (some (.int (8) t_MOST_SETS_BEHIND)))
    (i_MOST_GRADES : PySem.W.nsIn K mainGlobals "MOST_GRADES" = some (some (.int (12) t_MOST_GRADES)))
    (i_LATEST_FIRST_SET : PySem.W.nsIn K mainGlobals "LATEST_FIRST_SET" = some (some (.int (100) t_LATEST_FIRST_SET)))
    (i_LATEST_BIRTH : PySem.W.nsIn K mainGlobals "LATEST_BIRTH" = some (some (.int (2000) t_LATEST_BIRTH)))
    (i_LATEST_YEAR_ASKED : PySem.W.nsIn K mainGlobals "LATEST_YEAR_ASKED" = some (some (.int (20000) t_LATEST_YEAR_ASKED)))
    (i_HIGHEST_AGE_ASKED : PySem.W.nsIn K mainGlobals "HIGHEST_AGE_ASKED" = some (some (.int (2000) t_HIGHEST_AGE_ASKED)))
    (i_OLDEST_FATHER_ASKED : PySem.W.nsIn K mainGlobals "OLDEST_FATHER_ASKED" = some (some (.int (100) t_OLDEST_FATHER_ASKED)))
    (i_MOST_FATHERS_ASKED : PySem.W.nsIn K mainGlobals "MOST_FATHERS_ASKED" = some (some (.int (4) t_MOST_FATHERS_ASKED)))
    (i_MOST_MEN : PySem.W.nsIn K mainGlobals "MOST_MEN" = some (some (.int (24) t_MOST_MEN)))
    (aCalls : PySem.W.nsIn K mainGlobals "CALLS" = some (some (.ref aT))) (lCalls : K.lookup aT = some ⟨.type "tuple", odT, .seq itT nT, slT⟩) (vCalls : Vals ([f_fr_start, f_fr_son, f_fr_drop, f_fr_behind, f_fr_enters, f_fr_age, f_fr_grade, f_fr_born_into, f_fr_fathers, f_fr_drift, f_fr_line, f_fr_in_step, f_fr_too_old, f_fr_too_young, f_fr_sons, f_fr_window, f_fr_mean, f_fr_together, f_fr_elder, f_fr_balance, f_fr_told, f_fr_back, f_fr_again, f_fr_state].map V.ref) itT.toList) (sCalls : itT.size ≤ sizeLine)
    (aGiven : PySem.W.nsIn K mainGlobals "GIVEN" = some (some (.ref aG))) (lGiven : K.lookup aG = some ⟨.type "tuple", odG, .seq itG nG, slG⟩) (vGiven : Vals givenV itG.toList) (sGiven : itG.size ≤ sizeLine)  :
    ∃ fd : FuncData, (∀ (s : Shared) (us : List Value), us.length = (["calls"] : List Str).length → BindsTo s fd ⟨us, []⟩ ((["calls"] : List Str).zip us)) ∧ ∀ base : Heap, K.In base → base.Ns mainGlobals mg → FnOk P w K mg base CX0 9 fa fd ["calls"] (spAns K) := by
  have T : Txt K mg C CC [f_fr_start, f_fr_son, f_fr_drop, f_fr_behind, f_fr_enters, f_fr_age, f_fr_grade, f_fr_born_into, f_fr_fathers, f_fr_drift, f_fr_line, f_fr_in_step, f_fr_too_old, f_fr_too_young, f_fr_sons, f_fr_window, f_fr_mean, f_fr_together, f_fr_elder, f_fr_balance, f_fr_told, f_fr_back, f_fr_again, f_fr_state] := ⟨kC.cl, kCC.cl, x_term, x_behind, x_grades, x_first_year, x_fathers, x_births, x_changes, x_earlier, x_later, PySem.W.mg_of X G nC, PySem.W.mg_of X G nCC, PySem.W.mg_none_of X G z_len, PySem.W.mg_none_of X G z_abs, PySem.W.mg_none_of X G z_sum, PySem.W.mg_none_of X G z_max, PySem.W.mg_none_of X G z_range, PySem.W.mg_none_of X G z_list, ⟨_, PySem.W.mg_of X G i_MOST_TAKEN_BACK, _, rfl⟩, ⟨_, PySem.W.mg_of X G i_NOT_THERE, _, rfl⟩, ⟨_, PySem.W.mg_of X G i_FIRST_ALONE, _, rfl⟩, ⟨_, PySem.W.mg_of X G i_ALREADY_SO, _, rfl⟩, ⟨_, PySem.W.mg_of X G i_OUT_OF_BOUNDS, _, rfl⟩, ⟨_, PySem.W.mg_of X G i_TOO_MANY, _, rfl⟩, ⟨_, PySem.W.mg_of X G i_HAS_NONE, _, rfl⟩, ⟨_, PySem.W.mg_of X G i_MOST_YEARS_A_TERM, _, rfl⟩, ⟨_, PySem.W.mg_of X G i_MOST_SETS_BEHIND, _, rfl⟩, ⟨_, PySem.W.mg_of X G i_MOST_GRADES, _, rfl⟩, ⟨_, PySem.W.mg_of X G i_LATEST_FIRST_SET, _, rfl⟩, ⟨_, PySem.W.mg_of X G i_LATEST_BIRTH, _, rfl⟩, ⟨_, PySem.W.mg_of X G i_LATEST_YEAR_ASKED, _, rfl⟩, ⟨_, PySem.W.mg_of X G i_HIGHEST_AGE_ASKED, _, rfl⟩, ⟨_, PySem.W.mg_of X G i_OLDEST_FATHER_ASKED, _, rfl⟩, ⟨_, PySem.W.mg_of X G i_MOST_FATHERS_ASKED, _, rfl⟩, ⟨_, PySem.W.mg_of X G i_MOST_MEN, _, rfl⟩,
    ⟨aT, _, PySem.W.mg_of X G aCalls, rfl, fun H => .inr ⟨_, itT, nT, lCalls, rfl, rfl, sCalls, vCalls⟩⟩, ⟨aG, _, PySem.W.mg_of X G aGiven, rfl, fun H => .inr ⟨_, itG, nG, lGiven, rfl, rfl, sGiven, vGiven⟩⟩⟩
  obtain ⟨a_c_init, d_c_init, F_c_init⟩ := g_c_init
  obtain ⟨a_c_note, d_c_note, F_c_note⟩ := g_c_note
  obtain ⟨a_c_step_back, d_c_step_back, F_c_step_back⟩ := g_c_step_back
  obtain ⟨a_c_step_on, d_c_step_on, F_c_step_on⟩ := g_c_step_on
  obtain ⟨a_c_how_many_back, d_c_how_many_back, F_c_how_many_back⟩ := g_c_how_many_back
  obtain ⟨a_c_how_many_again, d_c_how_many_again, F_c_how_many_again⟩ := g_c_how_many_again
  obtain ⟨a_p_init, d_p_init, F_p_init⟩ := g_p_init
  obtain ⟨a_p_begin, d_p_begin, F_p_begin⟩ := g_p_begin
  obtain ⟨a_p_how_many, d_p_how_many, F_p_how_many⟩ := g_p_how_many
  obtain ⟨a_p_has, d_p_has, F_p_has⟩ := g_p_has
  obtain ⟨a_p_standing, d_p_standing, F_p_standing⟩ := g_p_standing
  obtain ⟨a_p_stand_as, d_p_stand_as, F_p_stand_as⟩ := g_p_stand_as
  obtain ⟨a_p_add_son, d_p_add_son, F_p_add_son⟩ := g_p_add_son
  obtain ⟨a_p_drop_last, d_p_drop_last, F_p_drop_last⟩ := g_p_drop_last
  obtain ⟨a_p_put_behind, d_p_put_behind, F_p_put_behind⟩ := g_p_put_behind
  obtain ⟨a_p_take_back, d_p_take_back, F_p_take_back⟩ := g_p_take_back
  obtain ⟨a_p_do_again, d_p_do_again, F_p_do_again⟩ := g_p_do_again
  obtain ⟨a_p_line_of, d_p_line_of, F_p_line_of⟩ := g_p_line_of
  obtain ⟨a_p_fathers_above, d_p_fathers_above, F_p_fathers_above⟩ := g_p_fathers_above
  obtain ⟨a_p_sons_of, d_p_sons_of, F_p_sons_of⟩ := g_p_sons_of
  obtain ⟨a_p_gap, d_p_gap, F_p_gap⟩ := g_p_gap
  obtain ⟨a_p_sets_behind_first, d_p_sets_behind_first, F_p_sets_behind_first⟩ := g_p_sets_behind_first
  obtain ⟨a_p_of_one_set, d_p_of_one_set, F_p_of_one_set⟩ := g_p_of_one_set
  obtain ⟨a_p_year_in, d_p_year_in, F_p_year_in⟩ := g_p_year_in
  obtain ⟨a_p_age_in, d_p_age_in, F_p_age_in⟩ := g_p_age_in
  obtain ⟨a_p_grade_in, d_p_grade_in, F_p_grade_in⟩ := g_p_grade_in
  obtain ⟨a_as_number, d_as_number, F_as_number⟩ := g_as_number
  obtain ⟨a_signed, d_signed, F_signed⟩ := g_signed
  obtain ⟨a_as_set, d_as_set, F_as_set⟩ := g_as_set
  obtain ⟨a_between, d_between, F_between⟩ := g_between
  obtain ⟨a_grade_or_refusal, d_grade_or_refusal, F_grade_or_refusal⟩ := g_grade_or_refusal
  obtain ⟨a_fr_start, d_fr_start, F_fr_start⟩ := g_fr_start
  obtain ⟨a_fr_son, d_fr_son, F_fr_son⟩ := g_fr_son
  obtain ⟨a_fr_drop, d_fr_drop, F_fr_drop⟩ := g_fr_drop
  obtain ⟨a_fr_behind, d_fr_behind, F_fr_behind⟩ := g_fr_behind
  obtain ⟨a_fr_enters, d_fr_enters, F_fr_enters⟩ := g_fr_enters
  obtain ⟨a_fr_age, d_fr_age, F_fr_age⟩ := g_fr_age
  obtain ⟨a_fr_grade, d_fr_grade, F_fr_grade⟩ := g_fr_grade
  obtain ⟨a_fr_born_into, d_fr_born_into, F_fr_born_into⟩ := g_fr_born_into
  obtain ⟨a_fr_fathers, d_fr_fathers, F_fr_fathers⟩ := g_fr_fathers
  obtain ⟨a_fr_drift, d_fr_drift, F_fr_drift⟩ := g_fr_drift
  obtain ⟨a_fr_line, d_fr_line, F_fr_line⟩ := g_fr_line
  obtain ⟨a_fr_in_step, d_fr_in_step, F_fr_in_step⟩ := g_fr_in_step
  obtain ⟨a_fr_too_old, d_fr_too_old, F_fr_too_old⟩ := g_fr_too_old
  obtain ⟨a_fr_too_young, d_fr_too_young, F_fr_too_young⟩ := g_fr_too_young
  obtain ⟨a_fr_sons, d_fr_sons, F_fr_sons⟩ := g_fr_sons
  obtain ⟨a_fr_window, d_fr_window, F_fr_window⟩ := g_fr_window
  obtain ⟨a_fr_mean, d_fr_mean, F_fr_mean⟩ := g_fr_mean
  obtain ⟨a_fr_together, d_fr_together, F_fr_together⟩ := g_fr_together
  obtain ⟨a_fr_elder, d_fr_elder, F_fr_elder⟩ := g_fr_elder
  obtain ⟨a_fr_balance, d_fr_balance, F_fr_balance⟩ := g_fr_balance
  obtain ⟨a_fr_told, d_fr_told, F_fr_told⟩ := g_fr_told
  obtain ⟨a_fr_back, d_fr_back, F_fr_back⟩ := g_fr_back
  obtain ⟨a_fr_again, d_fr_again, F_fr_again⟩ := g_fr_again
  obtain ⟨a_fr_state, d_fr_state, F_fr_state⟩ := g_fr_state
  obtain ⟨a_answer_one, d_answer_one, F_answer_one⟩ := g_answer_one
  obtain ⟨a_answers, d_answers, F_answers⟩ := g_answers
  have b_c_init := F_c_init.binds (ps := ["self"]) fun _ _ _ _ _ _ us hl => match us, hl with | [_], _ => rfl
  have b_c_note := F_c_note.binds (ps := ["self", "standing"]) fun _ _ _ _ _ _ us hl => match us, hl with | [_, _], _ => rfl
  have b_c_step_back := F_c_step_back.binds (ps := ["self", "standing"]) fun _ _ _ _ _ _ us hl => match us, hl with | [_, _], _ => rfl
  have b_c_step_on := F_c_step_on.binds (ps := ["self", "standing"]) fun _ _ _ _ _ _ us hl => match us, hl with | [_, _], _ => rfl
  have b_c_how_many_back := F_c_how_many_back.binds (ps := ["self"]) fun _ _ _ _ _ _ us hl => match us, hl with | [_], _ => rfl
  have b_c_how_many_again := F_c_how_many_again.binds (ps := ["self"]) fun _ _ _ _ _ _ us hl => match us, hl with | [_], _ => rfl
  have b_p_init := F_p_init.binds (ps := ["self"]) fun _ _ _ _ _ _ us hl => match us, hl with | [_], _ => rfl
  have b_p_begin := F_p_begin.binds (ps := ["self", "term", "behind", "grades", "first_year"]) fun _ _ _ _ _ _ us hl => match us, hl with | [_, _, _, _, _], _ => rfl
  have b_p_how_many := F_p_how_many.binds (ps := ["self"]) fun _ _ _ _ _ _ us hl => match us, hl with | [_], _ => rfl
  have b_p_has := F_p_has.binds (ps := ["self", "man"]) fun _ _ _ _ _ _ us hl => match us, hl with | [_, _], _ => rfl
  have b_p_standing := F_p_standing.binds (ps := ["self"]) fun _ _ _ _ _ _ us hl => match us, hl with | [_], _ => rfl
  have b_p_stand_as := F_p_stand_as.binds (ps := ["self", "standing"]) fun _ _ _ _ _ _ us hl => match us, hl with | [_, _], _ => rfl
  have b_p_add_son := F_p_add_son.binds (ps := ["self", "father", "year"]) fun _ _ _ _ _ _ us hl => match us, hl with | [_, _, _], _ => rfl
  have b_p_drop_last := F_p_drop_last.binds (ps := ["self"]) fun _ _ _ _ _ _ us hl => match us, hl with | [_], _ => rfl
  have b_p_put_behind := F_p_put_behind.binds (ps := ["self", "sets"]) fun _ _ _ _ _ _ us hl => match us, hl with | [_, _], _ => rfl
  have b_p_take_back := F_p_take_back.binds (ps := ["self"]) fun _ _ _ _ _ _ us hl => match us, hl with | [_], _ => rfl
  have b_p_do_again := F_p_do_again.binds (ps := ["self"]) fun _ _ _ _ _ _ us hl => match us, hl with | [_], _ => rfl
  have b_p_line_of := F_p_line_of.binds (ps := ["self", "man"]) fun _ _ _ _ _ _ us hl => match us, hl with | [_, _], _ => rfl
  have b_p_fathers_above := F_p_fathers_above.binds (ps := ["self", "man"]) fun _ _ _ _ _ _ us hl => match us, hl with | [_, _], _ => rfl
  have b_p_sons_of := F_p_sons_of.binds (ps := ["self", "man"]) fun _ _ _ _ _ _ us hl => match us, hl with | [_, _], _ => rfl
  have b_p_gap := F_p_gap.binds (ps := ["self"]) fun _ _ _ _ _ _ us hl => match us, hl with | [_], _ => rfl
  have b_p_sets_behind_first := F_p_sets_behind_first.binds (ps := ["self", "man"]) fun _ _ _ _ _ _ us hl => match us, hl with | [_, _], _ => rfl
  have b_p_of_one_set := F_p_of_one_set.binds (ps := ["self", "man", "other"]) fun _ _ _ _ _ _ us hl => match us, hl with | [_, _, _], _ => rfl
  have b_p_year_in := F_p_year_in.binds (ps := ["self", "man"]) fun _ _ _ _ _ _ us hl => match us, hl with | [_, _], _ => rfl
  have b_p_age_in := F_p_age_in.binds (ps := ["self", "man"]) fun _ _ _ _ _ _ us hl => match us, hl with | [_, _], _ => rfl
  have b_p_grade_in := F_p_grade_in.binds (ps := ["self", "man", "year"]) fun _ _ _ _ _ _ us hl => match us, hl with | [_, _, _], _ => rfl
  have b_as_number := F_as_number.binds (ps := ["holds"]) fun _ _ _ _ _ _ us hl => match us, hl with | [_], _ => rfl
  have b_signed := F_signed.binds (ps := ["number"]) fun _ _ _ _ _ _ us hl => match us, hl with | [_], _ => rfl
  have b_as_set := F_as_set.binds (ps := ["men"]) fun _ _ _ _ _ _ us hl => match us, hl with | [_], _ => rfl
  have b_between := F_between.binds (ps := ["low", "high", "number"]) fun _ _ _ _ _ _ us hl => match us, hl with | [_, _, _], _ => rfl
  have b_grade_or_refusal := F_grade_or_refusal.binds (ps := ["people", "man", "year"]) fun _ _ _ _ _ _ us hl => match us, hl with | [_, _, _], _ => rfl
  have b_fr_start := F_fr_start.binds (ps := ["people", "t", "k", "g", "f"]) fun _ _ _ _ _ _ us hl => match us, hl with | [_, _, _, _, _], _ => rfl
  have b_fr_son := F_fr_son.binds (ps := ["people", "p", "y"]) fun _ _ _ _ _ _ us hl => match us, hl with | [_, _, _], _ => rfl
  have b_fr_drop := F_fr_drop.binds (ps := ["people"]) fun _ _ _ _ _ _ us hl => match us, hl with | [_], _ => rfl
  have b_fr_behind := F_fr_behind.binds (ps := ["people", "k"]) fun _ _ _ _ _ _ us hl => match us, hl with | [_, _], _ => rfl
  have b_fr_enters := F_fr_enters.binds (ps := ["people", "i"]) fun _ _ _ _ _ _ us hl => match us, hl with | [_, _], _ => rfl
  have b_fr_age := F_fr_age.binds (ps := ["people", "i"]) fun _ _ _ _ _ _ us hl => match us, hl with | [_, _], _ => rfl
  have b_fr_grade := F_fr_grade.binds (ps := ["people", "i", "y"]) fun _ _ _ _ _ _ us hl => match us, hl with | [_, _, _], _ => rfl
  have b_fr_born_into := F_fr_born_into.binds (ps := ["people", "i"]) fun _ _ _ _ _ _ us hl => match us, hl with | [_, _], _ => rfl
  have b_fr_fathers := F_fr_fathers.binds (ps := ["people", "i"]) fun _ _ _ _ _ _ us hl => match us, hl with | [_, _], _ => rfl
  have b_fr_drift := F_fr_drift.binds (ps := ["people", "i"]) fun _ _ _ _ _ _ us hl => match us, hl with | [_, _], _ => rfl
  have b_fr_line := F_fr_line.binds (ps := ["people", "i"]) fun _ _ _ _ _ _ us hl => match us, hl with | [_, _], _ => rfl
  have b_fr_in_step := F_fr_in_step.binds (ps := ["people", "l", "h"]) fun _ _ _ _ _ _ us hl => match us, hl with | [_, _, _], _ => rfl
  have b_fr_too_old := F_fr_too_old.binds (ps := ["people", "h"]) fun _ _ _ _ _ _ us hl => match us, hl with | [_, _], _ => rfl
  have b_fr_too_young := F_fr_too_young.binds (ps := ["people", "l"]) fun _ _ _ _ _ _ us hl => match us, hl with | [_, _], _ => rfl
  have b_fr_sons := F_fr_sons.binds (ps := ["people", "p"]) fun _ _ _ _ _ _ us hl => match us, hl with | [_, _], _ => rfl
  have b_fr_window := F_fr_window.binds (ps := ["people", "p", "l", "h"]) fun _ _ _ _ _ _ us hl => match us, hl with | [_, _, _, _], _ => rfl
  have b_fr_mean := F_fr_mean.binds (ps := ["people", "i"]) fun _ _ _ _ _ _ us hl => match us, hl with | [_, _], _ => rfl
  have b_fr_together := F_fr_together.binds (ps := ["people", "i", "j"]) fun _ _ _ _ _ _ us hl => match us, hl with | [_, _, _], _ => rfl
  have b_fr_elder := F_fr_elder.binds (ps := ["people", "i", "j"]) fun _ _ _ _ _ _ us hl => match us, hl with | [_, _, _], _ => rfl
  have b_fr_balance := F_fr_balance.binds (ps := ["people", "n", "a", "b", "c", "e"]) fun _ _ _ _ _ _ us hl => match us, hl with | [_, _, _, _, _, _], _ => rfl
  have b_fr_told := F_fr_told.binds (ps := ["people", "i"]) fun _ _ _ _ _ _ us hl => match us, hl with | [_, _], _ => rfl
  have b_fr_back := F_fr_back.binds (ps := ["people"]) fun _ _ _ _ _ _ us hl => match us, hl with | [_], _ => rfl
  have b_fr_again := F_fr_again.binds (ps := ["people"]) fun _ _ _ _ _ _ us hl => match us, hl with | [_], _ => rfl
  have b_fr_state := F_fr_state.binds (ps := ["people"]) fun _ _ _ _ _ _ us hl => match us, hl with | [_], _ => rfl
  have b_answer_one := F_answer_one.binds (ps := ["people", "number", "given"]) fun _ _ _ _ _ _ us hl => match us, hl with | [_, _, _], _ => rfl
  have b_answers := F_answers.binds (ps := ["calls"]) fun _ _ _ _ _ _ us hl => match us, hl with | [_], _ => rfl
  have ea := hfa.symm.trans (PySem.W.mg_of X G a_answers)
  cases ea
  refine ⟨d_answers, fun s us hu => ?_, fun base _ _ => ?_⟩
  · obtain ⟨oc, od, kV, doc, pm, an, cdv, ct, osl, rfl, lk, hcd⟩ := F_answers.ex
    match us, hu with
    | [_], _ => exact .of_eq rfl
  have o_c_init : FnOk P w K mg base CX0 1 f_c_init d_c_init ["self"] (spCInit CC) := ok_c_init F_c_init T
  have k_c_init : Mak0 P w K mg base 1 "Changes" CC (spCInit CC) := ⟨f_c_init, d_c_init, ["self"], ⟨kCC.mk', a_c_init.at_, a_c_init.fn, kCC.kc⟩, o_c_init, PySem.W.mg_of X G nCC, b_c_init⟩
  have o_c_note : FnOk P w K mg base CX0 1 f_c_note d_c_note ["self", "standing"] (spNote CC) := ok_c_note F_c_note T
  have m_c_note : C8.Met P w K mg base 1 CC "note" (spNote CC) [] := ⟨f_c_note, d_c_note, ["self", "standing"], [], T.cc, a_c_note, o_c_note, b_c_note, .nil⟩
  have o_c_step_back : FnOk P w K mg base CX0 1 f_c_step_back d_c_step_back ["self", "standing"] (spStepBack CC) := ok_c_step_back F_c_step_back T
  have m_c_step_back : C8.Met P w K mg base 1 CC "step_back" (spStepBack CC) [] := ⟨f_c_step_back, d_c_step_back, ["self", "standing"], [], T.cc, a_c_step_back, o_c_step_back, b_c_step_back, .nil⟩
  have o_c_step_on : FnOk P w K mg base CX0 1 f_c_step_on d_c_step_on ["self", "standing"] (spStepOn CC) := ok_c_step_on F_c_step_on T
  have m_c_step_on : C8.Met P w K mg base 1 CC "step_on" (spStepOn CC) [] := ⟨f_c_step_on, d_c_step_on, ["self", "standing"], [], T.cc, a_c_step_on, o_c_step_on, b_c_step_on, .nil⟩
  have o_c_how_many_back : FnOk P w K mg base CX0 1 f_c_how_many_back d_c_how_many_back ["self"] (spHmb CC) := ok_c_how_many_back F_c_how_many_back T
  have m_c_how_many_back : C8.Met P w K mg base 1 CC "how_many_back" (spHmb CC) [] := ⟨f_c_how_many_back, d_c_how_many_back, ["self"], [], T.cc, a_c_how_many_back, o_c_how_many_back, b_c_how_many_back, .nil⟩
  have o_c_how_many_again : FnOk P w K mg base CX0 1 f_c_how_many_again d_c_how_many_again ["self"] (spHma CC) := ok_c_how_many_again F_c_how_many_again T
  have m_c_how_many_again : C8.Met P w K mg base 1 CC "how_many_again" (spHma CC) [] := ⟨f_c_how_many_again, d_c_how_many_again, ["self"], [], T.cc, a_c_how_many_again, o_c_how_many_again, b_c_how_many_again, .nil⟩
  have o_p_init : FnOk P w K mg base CX0 3 f_p_init d_p_init ["self"] (spPInit C CC) := ok_p_init F_p_init T k_c_init
  have k_p_init : Mak0 P w K mg base 3 "People" C (spPInit C CC) := ⟨f_p_init, d_p_init, ["self"], ⟨kC.mk', a_p_init.at_, a_p_init.fn, kC.kc⟩, o_p_init, PySem.W.mg_of X G nC, b_p_init⟩
  have o_p_begin : FnOk P w K mg base CX0 3 f_p_begin d_p_begin ["self", "term", "behind", "grades", "first_year"] (spBegin C CC) := ok_p_begin F_p_begin T k_c_init
  have m_p_begin : C8.Met P w K mg base 3 C "begin" (spBegin C CC) [] := ⟨f_p_begin, d_p_begin, ["self", "term", "behind", "grades", "first_year"], [], T.cl, a_p_begin, o_p_begin, b_p_begin, .nil⟩
  have o_p_how_many : FnOk P w K mg base CX0 1 f_p_how_many d_p_how_many ["self"] (spP C f_how_many) := ok_p_how_many F_p_how_many T
  have m_p_how_many : C8.Met P w K mg base 1 C "how_many" (spP C f_how_many) [] := ⟨f_p_how_many, d_p_how_many, ["self"], [], T.cl, a_p_how_many, o_p_how_many, b_p_how_many, .nil⟩
  have o_p_has : FnOk P w K mg base CX0 1 f_p_has d_p_has ["self", "man"] (spP C f_has) := ok_p_has F_p_has T
  have m_p_has : C8.Met P w K mg base 1 C "has" (spP C f_has) [] := ⟨f_p_has, d_p_has, ["self", "man"], [], T.cl, a_p_has, o_p_has, b_p_has, .nil⟩
  have o_p_standing : FnOk P w K mg base CX0 1 f_p_standing d_p_standing ["self"] (spStanding C) := ok_p_standing F_p_standing T
  have m_p_standing : C8.Met P w K mg base 1 C "standing" (spStanding C) [] := ⟨f_p_standing, d_p_standing, ["self"], [], T.cl, a_p_standing, o_p_standing, b_p_standing, .nil⟩
  have o_p_stand_as : FnOk P w K mg base CX0 1 f_p_stand_as d_p_stand_as ["self", "standing"] (spStandAs C) := ok_p_stand_as F_p_stand_as T
  have m_p_stand_as : C8.Met P w K mg base 1 C "stand_as" (spStandAs C) [] := ⟨f_p_stand_as, d_p_stand_as, ["self", "standing"], [], T.cl, a_p_stand_as, o_p_stand_as, b_p_stand_as, .nil⟩
  have o_p_add_son : FnOk P w K mg base CX0 2 f_p_add_son d_p_add_son ["self", "father", "year"] (spAddSon C CC) := ok_p_add_son F_p_add_son T m_c_note m_p_standing
  have m_p_add_son : C8.Met P w K mg base 2 C "add_son" (spAddSon C CC) [] := ⟨f_p_add_son, d_p_add_son, ["self", "father", "year"], [], T.cl, a_p_add_son, o_p_add_son, b_p_add_son, .nil⟩
  have o_p_drop_last : FnOk P w K mg base CX0 2 f_p_drop_last d_p_drop_last ["self"] (spDropLast C CC) := ok_p_drop_last F_p_drop_last T m_c_note m_p_standing
  have m_p_drop_last : C8.Met P w K mg base 2 C "drop_last" (spDropLast C CC) [] := ⟨f_p_drop_last, d_p_drop_last, ["self"], [], T.cl, a_p_drop_last, o_p_drop_last, b_p_drop_last, .nil⟩
  have o_p_put_behind : FnOk P w K mg base CX0 2 f_p_put_behind d_p_put_behind ["self", "sets"] (spPutBehind C CC) := ok_p_put_behind F_p_put_behind T m_c_note m_p_standing
  have m_p_put_behind : C8.Met P w K mg base 2 C "put_behind" (spPutBehind C CC) [] := ⟨f_p_put_behind, d_p_put_behind, ["self", "sets"], [], T.cl, a_p_put_behind, o_p_put_behind, b_p_put_behind, .nil⟩
  have o_p_take_back : FnOk P w K mg base CX0 2 f_p_take_back d_p_take_back ["self"] (spTakeBack C CC) := ok_p_take_back F_p_take_back T m_p_stand_as m_c_step_back m_p_standing
  have m_p_take_back : C8.Met P w K mg base 2 C "take_back" (spTakeBack C CC) [] := ⟨f_p_take_back, d_p_take_back, ["self"], [], T.cl, a_p_take_back, o_p_take_back, b_p_take_back, .nil⟩
  have o_p_do_again : FnOk P w K mg base CX0 2 f_p_do_again d_p_do_again ["self"] (spDoAgain C CC) := ok_p_do_again F_p_do_again T m_p_stand_as m_c_step_on m_p_standing
  have m_p_do_again : C8.Met P w K mg base 2 C "do_again" (spDoAgain C CC) [] := ⟨f_p_do_again, d_p_do_again, ["self"], [], T.cl, a_p_do_again, o_p_do_again, b_p_do_again, .nil⟩
  have o_p_line_of : FnOk P w K mg base CX0 1 f_p_line_of d_p_line_of ["self", "man"] (spL C f_line) := ok_p_line_of F_p_line_of T
  have m_p_line_of : C8.Met P w K mg base 1 C "line_of" (spL C f_line) [] := ⟨f_p_line_of, d_p_line_of, ["self", "man"], [], T.cl, a_p_line_of, o_p_line_of, b_p_line_of, .nil⟩
  have o_p_fathers_above : FnOk P w K mg base CX0 2 f_p_fathers_above d_p_fathers_above ["self", "man"] (spP C f_above) := ok_p_fathers_above F_p_fathers_above T m_p_line_of
  have m_p_fathers_above : C8.Met P w K mg base 2 C "fathers_above" (spP C f_above) [] := ⟨f_p_fathers_above, d_p_fathers_above, ["self", "man"], [], T.cl, a_p_fathers_above, o_p_fathers_above, b_p_fathers_above, .nil⟩
  have o_p_sons_of : FnOk P w K mg base CX0 2 f_p_sons_of d_p_sons_of ["self", "man"] (spL C f_sons) := ok_p_sons_of F_p_sons_of T m_p_how_many
  have m_p_sons_of : C8.Met P w K mg base 2 C "sons_of" (spL C f_sons) [] := ⟨f_p_sons_of, d_p_sons_of, ["self", "man"], [], T.cl, a_p_sons_of, o_p_sons_of, b_p_sons_of, .nil⟩
  have o_p_gap : FnOk P w K mg base CX0 1 f_p_gap d_p_gap ["self"] (spP C f_gap) := ok_p_gap F_p_gap T
  have m_p_gap : C8.Met P w K mg base 1 C "gap" (spP C f_gap) [] := ⟨f_p_gap, d_p_gap, ["self"], [], T.cl, a_p_gap, o_p_gap, b_p_gap, .nil⟩
  have o_p_sets_behind_first : FnOk P w K mg base CX0 3 f_p_sets_behind_first d_p_sets_behind_first ["self", "man"] (spP C f_set) := ok_p_sets_behind_first F_p_sets_behind_first T m_p_fathers_above
  have m_p_sets_behind_first : C8.Met P w K mg base 3 C "sets_behind_first" (spP C f_set) [] := ⟨f_p_sets_behind_first, d_p_sets_behind_first, ["self", "man"], [], T.cl, a_p_sets_behind_first, o_p_sets_behind_first, b_p_sets_behind_first, .nil⟩
  have o_p_of_one_set : FnOk P w K mg base CX0 4 f_p_of_one_set d_p_of_one_set ["self", "man", "other"] (spP C f_one) := ok_p_of_one_set F_p_of_one_set T m_p_sets_behind_first
  have m_p_of_one_set : C8.Met P w K mg base 4 C "of_one_set" (spP C f_one) [] := ⟨f_p_of_one_set, d_p_of_one_set, ["self", "man", "other"], [], T.cl, a_p_of_one_set, o_p_of_one_set, b_p_of_one_set, .nil⟩
  have o_p_year_in : FnOk P w K mg base CX0 4 f_p_year_in d_p_year_in ["self", "man"] (spP C f_year) := ok_p_year_in F_p_year_in T m_p_sets_behind_first
  have m_p_year_in : C8.Met P w K mg base 4 C "year_in" (spP C f_year) [] := ⟨f_p_year_in, d_p_year_in, ["self", "man"], [], T.cl, a_p_year_in, o_p_year_in, b_p_year_in, .nil⟩
  have o_p_age_in : FnOk P w K mg base CX0 5 f_p_age_in d_p_age_in ["self", "man"] (spP C f_age) := ok_p_age_in F_p_age_in T m_p_year_in
  have m_p_age_in : C8.Met P w K mg base 5 C "age_in" (spP C f_age) [] := ⟨f_p_age_in, d_p_age_in, ["self", "man"], [], T.cl, a_p_age_in, o_p_age_in, b_p_age_in, .nil⟩
  have o_p_grade_in : FnOk P w K mg base CX0 5 f_p_grade_in d_p_grade_in ["self", "man", "year"] (spP C f_grade) := ok_p_grade_in F_p_grade_in T m_p_year_in
  have m_p_grade_in : C8.Met P w K mg base 5 C "grade_in" (spP C f_grade) [] := ⟨f_p_grade_in, d_p_grade_in, ["self", "man", "year"], [], T.cl, a_p_grade_in, o_p_grade_in, b_p_grade_in, .nil⟩
  have o_as_number : FnOk P w K mg base CX0 1 f_as_number d_as_number ["holds"] spNum := ok_as_number F_as_number T
  have c_as_number : C8.Cal P w K mg base 1 "as_number" spNum [] := ⟨f_as_number, d_as_number, ["holds"], [], o_as_number, PySem.W.mg_of X G a_as_number, F_as_number.kp, b_as_number, .nil⟩
  have o_signed : FnOk P w K mg base CX0 2 f_signed d_signed ["number"] spSigned := ok_signed F_signed T c_as_number
  have c_signed : C8.Cal P w K mg base 2 "signed" spSigned [] := ⟨f_signed, d_signed, ["number"], [], o_signed, PySem.W.mg_of X G a_signed, F_signed.kp, b_signed, .nil⟩
  have o_as_set : FnOk P w K mg base CX0 1 f_as_set d_as_set ["men"] (spSet K) := ok_as_set F_as_set T
  have c_as_set : C8.Cal P w K mg base 1 "as_set" (spSet K) [] := ⟨f_as_set, d_as_set, ["men"], [], o_as_set, PySem.W.mg_of X G a_as_set, F_as_set.kp, b_as_set, .nil⟩
  have o_between : FnOk P w K mg base CX0 1 f_between d_between ["low", "high", "number"] spBetween := ok_between F_between T
  have c_between : C8.Cal P w K mg base 1 "between" spBetween [] := ⟨f_between, d_between, ["low", "high", "number"], [], o_between, PySem.W.mg_of X G a_between, F_between.kp, b_between, .nil⟩
  have o_grade_or_refusal : FnOk P w K mg base CX0 6 f_grade_or_refusal d_grade_or_refusal ["people", "man", "year"] (spL C f_gor) := ok_grade_or_refusal F_grade_or_refusal T m_p_grade_in
  have c_grade_or_refusal : C8.Cal P w K mg base 6 "grade_or_refusal" (spL C f_gor) [] := ⟨f_grade_or_refusal, d_grade_or_refusal, ["people", "man", "year"], [], o_grade_or_refusal, PySem.W.mg_of X G a_grade_or_refusal, F_grade_or_refusal.kp, b_grade_or_refusal, .nil⟩
  have o_fr_start : FnOk P w K mg base CX0 4 f_fr_start d_fr_start ["people", "t", "k", "g", "f"] (spU C CC 0) := ok_fr_start F_fr_start T c_between m_p_begin
  have c_fr_start : C8.Cal P w K mg base 4 "fr_start" (spU C CC 0) [] := ⟨f_fr_start, d_fr_start, ["people", "t", "k", "g", "f"], [], o_fr_start, PySem.W.mg_of X G a_fr_start, F_fr_start.kp, b_fr_start, .nil⟩
  have o_fr_son : FnOk P w K mg base CX0 6 f_fr_son d_fr_son ["people", "p", "y"] (spU C CC 1) := ok_fr_son F_fr_son T m_p_has m_p_how_many m_p_add_son c_signed m_p_age_in
  have c_fr_son : C8.Cal P w K mg base 6 "fr_son" (spU C CC 1) [] := ⟨f_fr_son, d_fr_son, ["people", "p", "y"], [], o_fr_son, PySem.W.mg_of X G a_fr_son, F_fr_son.kp, b_fr_son, .nil⟩
  have o_fr_drop : FnOk P w K mg base CX0 3 f_fr_drop d_fr_drop ["people"] (spU C CC 2) := ok_fr_drop F_fr_drop T m_p_how_many m_p_drop_last
  have c_fr_drop : C8.Cal P w K mg base 3 "fr_drop" (spU C CC 2) [] := ⟨f_fr_drop, d_fr_drop, ["people"], [], o_fr_drop, PySem.W.mg_of X G a_fr_drop, F_fr_drop.kp, b_fr_drop, .nil⟩
  have o_fr_behind : FnOk P w K mg base CX0 3 f_fr_behind d_fr_behind ["people", "k"] (spU C CC 3) := ok_fr_behind F_fr_behind T c_between m_p_put_behind
  have c_fr_behind : C8.Cal P w K mg base 3 "fr_behind" (spU C CC 3) [] := ⟨f_fr_behind, d_fr_behind, ["people", "k"], [], o_fr_behind, PySem.W.mg_of X G a_fr_behind, F_fr_behind.kp, b_fr_behind, .nil⟩
  have o_fr_enters : FnOk P w K mg base CX0 5 f_fr_enters d_fr_enters ["people", "i"] (spU C CC 4) := ok_fr_enters F_fr_enters T m_p_has m_p_sets_behind_first m_p_year_in
  have c_fr_enters : C8.Cal P w K mg base 5 "fr_enters" (spU C CC 4) [] := ⟨f_fr_enters, d_fr_enters, ["people", "i"], [], o_fr_enters, PySem.W.mg_of X G a_fr_enters, F_fr_enters.kp, b_fr_enters, .nil⟩
  have o_fr_age : FnOk P w K mg base CX0 6 f_fr_age d_fr_age ["people", "i"] (spU C CC 5) := ok_fr_age F_fr_age T m_p_has c_signed m_p_age_in
  have c_fr_age : C8.Cal P w K mg base 6 "fr_age" (spU C CC 5) [] := ⟨f_fr_age, d_fr_age, ["people", "i"], [], o_fr_age, PySem.W.mg_of X G a_fr_age, F_fr_age.kp, b_fr_age, .nil⟩
  have o_fr_grade : FnOk P w K mg base CX0 7 f_fr_grade d_fr_grade ["people", "i", "y"] (spU C CC 6) := ok_fr_grade F_fr_grade T m_p_has c_grade_or_refusal
  have c_fr_grade : C8.Cal P w K mg base 7 "fr_grade" (spU C CC 6) [] := ⟨f_fr_grade, d_fr_grade, ["people", "i", "y"], [], o_fr_grade, PySem.W.mg_of X G a_fr_grade, F_fr_grade.kp, b_fr_grade, .nil⟩
  have o_fr_born_into : FnOk P w K mg base CX0 7 f_fr_born_into d_fr_born_into ["people", "i"] (spU C CC 7) := ok_fr_born_into F_fr_born_into T m_p_has c_grade_or_refusal
  have c_fr_born_into : C8.Cal P w K mg base 7 "fr_born_into" (spU C CC 7) [] := ⟨f_fr_born_into, d_fr_born_into, ["people", "i"], [], o_fr_born_into, PySem.W.mg_of X G a_fr_born_into, F_fr_born_into.kp, b_fr_born_into, .nil⟩
  have o_fr_fathers : FnOk P w K mg base CX0 2 f_fr_fathers d_fr_fathers ["people", "i"] (spU C CC 8) := ok_fr_fathers F_fr_fathers T m_p_has
  have c_fr_fathers : C8.Cal P w K mg base 2 "fr_fathers" (spU C CC 8) [] := ⟨f_fr_fathers, d_fr_fathers, ["people", "i"], [], o_fr_fathers, PySem.W.mg_of X G a_fr_fathers, F_fr_fathers.kp, b_fr_fathers, .nil⟩
  have o_fr_drift : FnOk P w K mg base CX0 6 f_fr_drift d_fr_drift ["people", "i"] (spU C CC 9) := ok_fr_drift F_fr_drift T m_p_has m_p_fathers_above c_signed m_p_age_in
  have c_fr_drift : C8.Cal P w K mg base 6 "fr_drift" (spU C CC 9) [] := ⟨f_fr_drift, d_fr_drift, ["people", "i"], [], o_fr_drift, PySem.W.mg_of X G a_fr_drift, F_fr_drift.kp, b_fr_drift, .nil⟩
  have o_fr_line : FnOk P w K mg base CX0 2 f_fr_line d_fr_line ["people", "i"] (spU C CC 10) := ok_fr_line F_fr_line T m_p_has c_as_set m_p_line_of
  have c_fr_line : C8.Cal P w K mg base 2 "fr_line" (spU C CC 10) [] := ⟨f_fr_line, d_fr_line, ["people", "i"], [], o_fr_line, PySem.W.mg_of X G a_fr_line, F_fr_line.kp, b_fr_line, .nil⟩
  have o_fr_in_step : FnOk P w K mg base CX0 6 f_fr_in_step d_fr_in_step ["people", "l", "h"] (spU C CC 11) := ok_fr_in_step F_fr_in_step T c_as_set m_p_how_many c_between m_p_age_in
  have c_fr_in_step : C8.Cal P w K mg base 6 "fr_in_step" (spU C CC 11) [] := ⟨f_fr_in_step, d_fr_in_step, ["people", "l", "h"], [], o_fr_in_step, PySem.W.mg_of X G a_fr_in_step, F_fr_in_step.kp, b_fr_in_step, .nil⟩
  have o_fr_too_old : FnOk P w K mg base CX0 6 f_fr_too_old d_fr_too_old ["people", "h"] (spU C CC 12) := ok_fr_too_old F_fr_too_old T c_as_set m_p_how_many m_p_age_in
  have c_fr_too_old : C8.Cal P w K mg base 6 "fr_too_old" (spU C CC 12) [] := ⟨f_fr_too_old, d_fr_too_old, ["people", "h"], [], o_fr_too_old, PySem.W.mg_of X G a_fr_too_old, F_fr_too_old.kp, b_fr_too_old, .nil⟩
  have o_fr_too_young : FnOk P w K mg base CX0 6 f_fr_too_young d_fr_too_young ["people", "l"] (spU C CC 13) := ok_fr_too_young F_fr_too_young T c_as_set m_p_how_many m_p_age_in
  have c_fr_too_young : C8.Cal P w K mg base 6 "fr_too_young" (spU C CC 13) [] := ⟨f_fr_too_young, d_fr_too_young, ["people", "l"], [], o_fr_too_young, PySem.W.mg_of X G a_fr_too_young, F_fr_too_young.kp, b_fr_too_young, .nil⟩
  have o_fr_sons : FnOk P w K mg base CX0 3 f_fr_sons d_fr_sons ["people", "p"] (spU C CC 14) := ok_fr_sons F_fr_sons T m_p_has c_as_set m_p_sons_of
  have c_fr_sons : C8.Cal P w K mg base 3 "fr_sons" (spU C CC 14) [] := ⟨f_fr_sons, d_fr_sons, ["people", "p"], [], o_fr_sons, PySem.W.mg_of X G a_fr_sons, F_fr_sons.kp, b_fr_sons, .nil⟩
  have o_fr_window : FnOk P w K mg base CX0 5 f_fr_window d_fr_window ["people", "p", "l", "h"] (spU C CC 15) := ok_fr_window F_fr_window T m_p_has m_p_year_in m_p_gap
  have c_fr_window : C8.Cal P w K mg base 5 "fr_window" (spU C CC 15) [] := ⟨f_fr_window, d_fr_window, ["people", "p", "l", "h"], [], o_fr_window, PySem.W.mg_of X G a_fr_window, F_fr_window.kp, b_fr_window, .nil⟩
  have o_fr_mean : FnOk P w K mg base CX0 3 f_fr_mean d_fr_mean ["people", "i"] (spU C CC 16) := ok_fr_mean F_fr_mean T m_p_has m_p_fathers_above
  have c_fr_mean : C8.Cal P w K mg base 3 "fr_mean" (spU C CC 16) [] := ⟨f_fr_mean, d_fr_mean, ["people", "i"], [], o_fr_mean, PySem.W.mg_of X G a_fr_mean, F_fr_mean.kp, b_fr_mean, .nil⟩
  have o_fr_together : FnOk P w K mg base CX0 5 f_fr_together d_fr_together ["people", "i", "j"] (spU C CC 17) := ok_fr_together F_fr_together T m_p_has c_as_number m_p_of_one_set
  have c_fr_together : C8.Cal P w K mg base 5 "fr_together" (spU C CC 17) [] := ⟨f_fr_together, d_fr_together, ["people", "i", "j"], [], o_fr_together, PySem.W.mg_of X G a_fr_together, F_fr_together.kp, b_fr_together, .nil⟩
  have o_fr_elder : FnOk P w K mg base CX0 5 f_fr_elder d_fr_elder ["people", "i", "j"] (spU C CC 18) := ok_fr_elder F_fr_elder T m_p_has c_as_number m_p_year_in m_p_of_one_set
  have c_fr_elder : C8.Cal P w K mg base 5 "fr_elder" (spU C CC 18) [] := ⟨f_fr_elder, d_fr_elder, ["people", "i", "j"], [], o_fr_elder, PySem.W.mg_of X G a_fr_elder, F_fr_elder.kp, b_fr_elder, .nil⟩
  have o_fr_balance : FnOk P w K mg base CX0 6 f_fr_balance d_fr_balance ["people", "n", "a", "b", "c", "e"] (spU C CC 19) := ok_fr_balance F_fr_balance T c_signed m_p_age_in m_p_gap
  have c_fr_balance : C8.Cal P w K mg base 6 "fr_balance" (spU C CC 19) [] := ⟨f_fr_balance, d_fr_balance, ["people", "n", "a", "b", "c", "e"], [], o_fr_balance, PySem.W.mg_of X G a_fr_balance, F_fr_balance.kp, b_fr_balance, .nil⟩
  have o_fr_told : FnOk P w K mg base CX0 3 f_fr_told d_fr_told ["people", "i"] (spU C CC 20) := ok_fr_told F_fr_told T m_p_has m_p_fathers_above
  have c_fr_told : C8.Cal P w K mg base 3 "fr_told" (spU C CC 20) [] := ⟨f_fr_told, d_fr_told, ["people", "i"], [], o_fr_told, PySem.W.mg_of X G a_fr_told, F_fr_told.kp, b_fr_told, .nil⟩
  have o_fr_back : FnOk P w K mg base CX0 3 f_fr_back d_fr_back ["people"] (spU C CC 21) := ok_fr_back F_fr_back T m_c_how_many_back m_p_take_back
  have c_fr_back : C8.Cal P w K mg base 3 "fr_back" (spU C CC 21) [] := ⟨f_fr_back, d_fr_back, ["people"], [], o_fr_back, PySem.W.mg_of X G a_fr_back, F_fr_back.kp, b_fr_back, .nil⟩
  have o_fr_again : FnOk P w K mg base CX0 3 f_fr_again d_fr_again ["people"] (spU C CC 22) := ok_fr_again F_fr_again T m_c_how_many_again m_p_do_again
  have c_fr_again : C8.Cal P w K mg base 3 "fr_again" (spU C CC 22) [] := ⟨f_fr_again, d_fr_again, ["people"], [], o_fr_again, PySem.W.mg_of X G a_fr_again, F_fr_again.kp, b_fr_again, .nil⟩
  have o_fr_state : FnOk P w K mg base CX0 2 f_fr_state d_fr_state ["people"] (spU C CC 23) := ok_fr_state F_fr_state T m_p_how_many m_c_how_many_again m_c_how_many_back
  have c_fr_state : C8.Cal P w K mg base 2 "fr_state" (spU C CC 23) [] := ⟨f_fr_state, d_fr_state, ["people"], [], o_fr_state, PySem.W.mg_of X G a_fr_state, F_fr_state.kp, b_fr_state, .nil⟩
  have hS : ∀ f sp, RCall [f_fr_start, f_fr_son, f_fr_drop, f_fr_behind, f_fr_enters, f_fr_age, f_fr_grade, f_fr_born_into, f_fr_fathers, f_fr_drift, f_fr_line, f_fr_in_step, f_fr_too_old, f_fr_too_young, f_fr_sons, f_fr_window, f_fr_mean, f_fr_together, f_fr_elder, f_fr_balance, f_fr_told, f_fr_back, f_fr_again, f_fr_state] C CC f sp → Held P w K mg base 7 f sp := by
    rintro f sp ⟨c, hc, rfl⟩
    match c, hc with
    | 0, hc =>
      cases hc
      exact ⟨d_fr_start, ["people", "t", "k", "g", "f"], o_fr_start.mono (by decide), F_fr_start.kp, b_fr_start⟩
    | 1, hc =>
      cases hc
      exact ⟨d_fr_son, ["people", "p", "y"], o_fr_son.mono (by decide), F_fr_son.kp, b_fr_son⟩
    | 2, hc =>
      cases hc
      exact ⟨d_fr_drop, ["people"], o_fr_drop.mono (by decide), F_fr_drop.kp, b_fr_drop⟩
    | 3, hc =>
      cases hc
      exact ⟨d_fr_behind, ["people", "k"], o_fr_behind.mono (by decide), F_fr_behind.kp, b_fr_behind⟩
    | 4, hc =>
      cases hc
      exact ⟨d_fr_enters, ["people", "i"], o_fr_enters.mono (by decide), F_fr_enters.kp, b_fr_enters⟩
    | 5, hc =>
      cases hc
      exact ⟨d_fr_age, ["people", "i"], o_fr_age.mono (by decide), F_fr_age.kp, b_fr_age⟩
    | 6, hc =>
      cases hc
      exact ⟨d_fr_grade, ["people", "i", "y"], o_fr_grade.mono (by decide), F_fr_grade.kp, b_fr_grade⟩
    | 7, hc =>
      cases hc
      exact ⟨d_fr_born_into, ["people", "i"], o_fr_born_into.mono (by decide), F_fr_born_into.kp, b_fr_born_into⟩
    | 8, hc =>
      cases hc
      exact ⟨d_fr_fathers, ["people", "i"], o_fr_fathers.mono (by decide), F_fr_fathers.kp, b_fr_fathers⟩
    | 9, hc =>
      cases hc
      exact ⟨d_fr_drift, ["people", "i"], o_fr_drift.mono (by decide), F_fr_drift.kp, b_fr_drift⟩
    | 10, hc =>
      cases hc
      exact ⟨d_fr_line, ["people", "i"], o_fr_line.mono (by decide), F_fr_line.kp, b_fr_line⟩
    | 11, hc =>
      cases hc
      exact ⟨d_fr_in_step, ["people", "l", "h"], o_fr_in_step.mono (by decide), F_fr_in_step.kp, b_fr_in_step⟩
    | 12, hc =>
      cases hc
      exact ⟨d_fr_too_old, ["people", "h"], o_fr_too_old.mono (by decide), F_fr_too_old.kp, b_fr_too_old⟩
    | 13, hc =>
      cases hc
      exact ⟨d_fr_too_young, ["people", "l"], o_fr_too_young.mono (by decide), F_fr_too_young.kp, b_fr_too_young⟩
    | 14, hc =>
      cases hc
      exact ⟨d_fr_sons, ["people", "p"], o_fr_sons.mono (by decide), F_fr_sons.kp, b_fr_sons⟩
    | 15, hc =>
      cases hc
      exact ⟨d_fr_window, ["people", "p", "l", "h"], o_fr_window.mono (by decide), F_fr_window.kp, b_fr_window⟩
    | 16, hc =>
      cases hc
      exact ⟨d_fr_mean, ["people", "i"], o_fr_mean.mono (by decide), F_fr_mean.kp, b_fr_mean⟩
    | 17, hc =>
      cases hc
      exact ⟨d_fr_together, ["people", "i", "j"], o_fr_together.mono (by decide), F_fr_together.kp, b_fr_together⟩
    | 18, hc =>
      cases hc
      exact ⟨d_fr_elder, ["people", "i", "j"], o_fr_elder.mono (by decide), F_fr_elder.kp, b_fr_elder⟩
    | 19, hc =>
      cases hc
      exact ⟨d_fr_balance, ["people", "n", "a", "b", "c", "e"], o_fr_balance.mono (by decide), F_fr_balance.kp, b_fr_balance⟩
    | 20, hc =>
      cases hc
      exact ⟨d_fr_told, ["people", "i"], o_fr_told.mono (by decide), F_fr_told.kp, b_fr_told⟩
    | 21, hc =>
      cases hc
      exact ⟨d_fr_back, ["people"], o_fr_back.mono (by decide), F_fr_back.kp, b_fr_back⟩
    | 22, hc =>
      cases hc
      exact ⟨d_fr_again, ["people"], o_fr_again.mono (by decide), F_fr_again.kp, b_fr_again⟩
    | 23, hc =>
      cases hc
      exact ⟨d_fr_state, ["people"], o_fr_state.mono (by decide), F_fr_state.kp, b_fr_state⟩
    | c + 24, hc => cases hc
  have o_answer_one : FnOk P w K mg base CX0 8 f_answer_one d_answer_one ["people", "number", "given"] (spOne C CC K) := ok_answer_one F_answer_one T rfl hS
  have c_answer_one : C8.Cal P w K mg base 8 "answer_one" (spOne C CC K) [] := ⟨f_answer_one, d_answer_one, ["people", "number", "given"], [], o_answer_one, PySem.W.mg_of X G a_answer_one, F_answer_one.kp, b_answer_one, .nil⟩
  have o_answers : FnOk P w K mg base CX0 9 fa d_answers ["calls"] (spAns K) := ok_answers F_answers T c_answer_one k_p_init
  exact o_answers
end Fs
open PySem PySem.W PyProof.Rows
set_option maxRecDepth 100000 in
set_option maxHeartbeats 0 in
theorem PySem.Challenge.cw_fathersets_s01_answers_holds : PySem.Challenge.rw_fathersets_s01_answers.Holds := by
  w_on; k_headS; (case hw => exact ⟨[.list [.int 0, .int 0, .int 0, .int 0, .int 0]], by decide +kernel, by decide +kernel⟩)
  k_fillS
  refine L2.walk_specK (r := PySem.Challenge.rw_fathersets_s01_answers) (k := 9) (CX := L2.CX0) (ps := ["calls"]) (sp := Fs.spAns) (by decide +kernel) rfl rfl ⟨rfl, by decide, by decide⟩ (fun w h Y => PySem.W.kIn_of Y) ?F ?S (fun _ _ _ _ z => z)
  case F =>
    intro w mg fa h Y KX G hmg
    refine' Fs.all_mk KX G hmg ?kC ?nC ?kCC ?nCC ?g_c_init ?g_c_note ?g_c_step_back ?g_c_step_on ?g_c_how_many_back ?g_c_how_many_again ?g_p_init ?g_p_begin ?g_p_how_many ?g_p_has ?g_p_standing ?g_p_stand_as ?g_p_add_son ?g_p_drop_last ?g_p_put_behind ?g_p_take_back ?g_p_do_again ?g_p_line_of ?g_p_fathers_above ?g_p_sons_of ?g_p_gap ?g_p_sets_behind_first ?g_p_of_one_set ?g_p_year_in ?g_p_age_in ?g_p_grade_in ?g_as_number ?g_signed ?g_as_set ?g_between ?g_grade_or_refusal ?g_fr_start ?g_fr_son ?g_fr_drop ?g_fr_behind ?g_fr_enters ?g_fr_age ?g_fr_grade ?g_fr_born_into ?g_fr_fathers ?g_fr_drift ?g_fr_line ?g_fr_in_step ?g_fr_too_old ?g_fr_too_young ?g_fr_sons ?g_fr_window ?g_fr_mean ?g_fr_together ?g_fr_elder ?g_fr_balance ?g_fr_told ?g_fr_back ?g_fr_again ?g_fr_state ?g_answer_one ?g_answers ?x_term ?x_behind ?x_grades ?x_first_year ?x_fathers ?x_births ?x_changes ?x_earlier ?x_later ?z_len ?z_abs ?z_sum ?z_max ?z_range ?z_list ?i_MOST_TAKEN_BACK ?i_NOT_THERE ?i_FIRST_ALONE ?i_ALREADY_SO ?i_OUT_OF_BOUNDS ?i_TOO_MANY ?i_HAS_NONE ?i_MOST_YEARS_A_TERM ?i_MOST_SETS_BEHIND ?i_MOST_GRADES ?i_LATEST_FIRST_SET ?i_LATEST_BIRTH ?i_LATEST_YEAR_ASKED ?i_HIGHEST_AGE_ASKED ?i_OLDEST_FATHER_ASKED ?i_MOST_FATHERS_ASKED ?i_MOST_MEN ?aCalls ?lCalls ?vCalls ?sCalls ?aGiven ?lGiven ?vGiven ?sGiven
    (case nC => k_is)
    (case nCC => k_is)
    (case kC => (refine' Fs.KCls.mk (L2.Cls.mk ?pg ?hd ?po ?sa) ?mk ?kc; (case pg => k_is); (case hd => k_is); (case po => k_is); (case sa => k_is); (case mk => k_is); (case kc => k_is)))
    (case kCC => (refine' Fs.KCls.mk (L2.Cls.mk ?pg ?hd ?po ?sa) ?mk ?kc; (case pg => k_is); (case hd => k_is); (case po => k_is); (case sa => k_is); (case mk => k_is); (case kc => k_is)))
    (case g_c_init => (refine' Fs.m_fact ?a ?i ?l ?c ?k; (case a => k_is); (case i => k_is); (case l => k_is); (case c => k_is); (case k => k_is)))
    (case g_c_note => (refine' Fs.m_fact ?a ?i ?l ?c ?k; (case a => k_is); (case i => k_is); (case l => k_is); (case c => k_is); (case k => k_is)))
    (case g_c_step_back => (refine' Fs.m_fact ?a ?i ?l ?c ?k; (case a => k_is); (case i => k_is); (case l => k_is); (case c => k_is); (case k => k_is)))
    (case g_c_step_on => (refine' Fs.m_fact ?a ?i ?l ?c ?k; (case a => k_is); (case i => k_is); (case l => k_is); (case c => k_is); (case k => k_is)))
    (case g_c_how_many_back => (refine' Fs.m_fact ?a ?i ?l ?c ?k; (case a => k_is); (case i => k_is); (case l => k_is); (case c => k_is); (case k => k_is)))
    (case g_c_how_many_again => (refine' Fs.m_fact ?a ?i ?l ?c ?k; (case a => k_is); (case i => k_is); (case l => k_is); (case c => k_is); (case k => k_is)))
    (case g_p_init => (refine' Fs.m_fact ?a ?i ?l ?c ?k; (case a => k_is); (case i => k_is); (case l => k_is); (case c => k_is); (case k => k_is)))
    (case g_p_begin => (refine' Fs.m_fact ?a ?i ?l ?c ?k; (case a => k_is); (case i => k_is); (case l => k_is); (case c => k_is); (case k => k_is)))
    (case g_p_how_many => (refine' Fs.m_fact ?a ?i ?l ?c ?k; (case a => k_is); (case i => k_is); (case l => k_is); (case c => k_is); (case k => k_is)))
    (case g_p_has => (refine' Fs.m_fact ?a ?i ?l ?c ?k; (case a => k_is); (case i => k_is); (case l => k_is); (case c => k_is); (case k => k_is)))
    (case g_p_standing => (refine' Fs.m_fact ?a ?i ?l ?c ?k; (case a => k_is); (case i => k_is); (case l => k_is); (case c => k_is); (case k => k_is)))
    (case g_p_stand_as => (refine' Fs.m_fact ?a ?i ?l ?c ?k; (case a => k_is); (case i => k_is); (case l => k_is); (case c => k_is); (case k => k_is)))
    (case g_p_add_son => (refine' Fs.m_fact ?a ?i ?l ?c ?k; (case a => k_is); (case i => k_is); (case l => k_is); (case c => k_is); (case k => k_is)))
    (case g_p_drop_last => (refine' Fs.m_fact ?a ?i ?l ?c ?k; (case a => k_is); (case i => k_is); (case l => k_is); (case c => k_is); (case k => k_is)))
    (case g_p_put_behind => (refine' Fs.m_fact ?a ?i ?l ?c ?k; (case a => k_is); (case i => k_is); (case l => k_is); (case c => k_is); (case k => k_is)))
    (case g_p_take_back => (refine' Fs.m_fact ?a ?i ?l ?c ?k; (case a => k_is); (case i => k_is); (case l => k_is); (case c => k_is); (case k => k_is)))
    (case g_p_do_again => (refine' Fs.m_fact ?a ?i ?l ?c ?k; (case a => k_is); (case i => k_is); (case l => k_is); (case c => k_is); (case k => k_is)))
    (case g_p_line_of => (refine' Fs.m_fact ?a ?i ?l ?c ?k; (case a => k_is); (case i => k_is); (case l => k_is); (case c => k_is); (case k => k_is)))
    (case g_p_fathers_above => (refine' Fs.m_fact ?a ?i ?l ?c ?k; (case a => k_is); (case i => k_is); (case l => k_is); (case c => k_is); (case k => k_is)))
    (case g_p_sons_of => (refine' Fs.m_fact ?a ?i ?l ?c ?k; (case a => k_is); (case i => k_is); (case l => k_is); (case c => k_is); (case k => k_is)))
    (case g_p_gap => (refine' Fs.m_fact ?a ?i ?l ?c ?k; (case a => k_is); (case i => k_is); (case l => k_is); (case c => k_is); (case k => k_is)))
    (case g_p_sets_behind_first => (refine' Fs.m_fact ?a ?i ?l ?c ?k; (case a => k_is); (case i => k_is); (case l => k_is); (case c => k_is); (case k => k_is)))
    (case g_p_of_one_set => (refine' Fs.m_fact ?a ?i ?l ?c ?k; (case a => k_is); (case i => k_is); (case l => k_is); (case c => k_is); (case k => k_is)))
    (case g_p_year_in => (refine' Fs.m_fact ?a ?i ?l ?c ?k; (case a => k_is); (case i => k_is); (case l => k_is); (case c => k_is); (case k => k_is)))
    (case g_p_age_in => (refine' Fs.m_fact ?a ?i ?l ?c ?k; (case a => k_is); (case i => k_is); (case l => k_is); (case c => k_is); (case k => k_is)))
    (case g_p_grade_in => (refine' Fs.m_fact ?a ?i ?l ?c ?k; (case a => k_is); (case i => k_is); (case l => k_is); (case c => k_is); (case k => k_is)))
    (case g_as_number => (refine' Fs.fn_fact ?a ?l ?c ?k; (case a => k_is); (case l => k_is); (case c => k_is); (case k => k_is)))
    (case g_signed => (refine' Fs.fn_fact ?a ?l ?c ?k; (case a => k_is); (case l => k_is); (case c => k_is); (case k => k_is)))
    (case g_as_set => (refine' Fs.fn_fact ?a ?l ?c ?k; (case a => k_is); (case l => k_is); (case c => k_is); (case k => k_is)))
    (case g_between => (refine' Fs.fn_fact ?a ?l ?c ?k; (case a => k_is); (case l => k_is); (case c => k_is); (case k => k_is)))
    (case g_grade_or_refusal => (refine' Fs.fn_fact ?a ?l ?c ?k; (case a => k_is); (case l => k_is); (case c => k_is); (case k => k_is)))
    (case g_fr_start => (refine' Fs.fn_fact ?a ?l ?c ?k; (case a => k_is); (case l => k_is); (case c => k_is); (case k => k_is)))
    (case g_fr_son => (refine' Fs.fn_fact ?a ?l ?c ?k; (case a => k_is); (case l => k_is); (case c => k_is); (case k => k_is)))
    (case g_fr_drop => (refine' Fs.fn_fact ?a ?l ?c ?k; (case a => k_is); (case l => k_is); (case c => k_is); (case k => k_is)))
    (case g_fr_behind => (refine' Fs.fn_fact ?a ?l ?c ?k; (case a => k_is); (case l => k_is); (case c => k_is); (case k => k_is)))
    (case g_fr_enters => (refine' Fs.fn_fact ?a ?l ?c ?k; (case a => k_is); (case l => k_is); (case c => k_is); (case k => k_is)))
    (case g_fr_age => (refine' Fs.fn_fact ?a ?l ?c ?k; (case a => k_is); (case l => k_is); (case c => k_is); (case k => k_is)))
    (case g_fr_grade => (refine' Fs.fn_fact ?a ?l ?c ?k; (case a => k_is); (case l => k_is); (case c => k_is); (case k => k_is)))
    (case g_fr_born_into => (refine' Fs.fn_fact ?a ?l ?c ?k; (case a => k_is); (case l => k_is); (case c => k_is); (case k => k_is)))
    (case g_fr_fathers => (refine' Fs.fn_fact ?a ?l ?c ?k; (case a => k_is); (case l => k_is); (case c => k_is); (case k => k_is)))
    (case g_fr_drift => (refine' Fs.fn_fact ?a ?l ?c ?k; (case a => k_is); (case l => k_is); (case c => k_is); (case k => k_is)))
    (case g_fr_line => (refine' Fs.fn_fact ?a ?l ?c ?k; (case a => k_is); (case l => k_is); (case c => k_is); (case k => k_is)))
    (case g_fr_in_step => (refine' Fs.fn_fact ?a ?l ?c ?k; (case a => k_is); (case l => k_is); (case c => k_is); (case k => k_is)))
    (case g_fr_too_old => (refine' Fs.fn_fact ?a ?l ?c ?k; (case a => k_is); (case l => k_is); (case c => k_is); (case k => k_is)))
    (case g_fr_too_young => (refine' Fs.fn_fact ?a ?l ?c ?k; (case a => k_is); (case l => k_is); (case c => k_is); (case k => k_is)))
    (case g_fr_sons => (refine' Fs.fn_fact ?a ?l ?c ?k; (case a => k_is); (case l => k_is); (case c => k_is); (case k => k_is)))
    (case g_fr_window => (refine' Fs.fn_fact ?a ?l ?c ?k; (case a => k_is); (case l => k_is); (case c => k_is); (case k => k_is)))
    (case g_fr_mean => (refine' Fs.fn_fact ?a ?l ?c ?k; (case a => k_is); (case l => k_is); (case c => k_is); (case k => k_is)))
    (case g_fr_together => (refine' Fs.fn_fact ?a ?l ?c ?k; (case a => k_is); (case l => k_is); (case c => k_is); (case k => k_is)))
    (case g_fr_elder => (refine' Fs.fn_fact ?a ?l ?c ?k; (case a => k_is); (case l => k_is); (case c => k_is); (case k => k_is)))
    (case g_fr_balance => (refine' Fs.fn_fact ?a ?l ?c ?k; (case a => k_is); (case l => k_is); (case c => k_is); (case k => k_is)))
    (case g_fr_told => (refine' Fs.fn_fact ?a ?l ?c ?k; (case a => k_is); (case l => k_is); (case c => k_is); (case k => k_is)))
    (case g_fr_back => (refine' Fs.fn_fact ?a ?l ?c ?k; (case a => k_is); (case l => k_is); (case c => k_is); (case k => k_is)))
    (case g_fr_again => (refine' Fs.fn_fact ?a ?l ?c ?k; (case a => k_is); (case l => k_is); (case c => k_is); (case k => k_is)))
    (case g_fr_state => (refine' Fs.fn_fact ?a ?l ?c ?k; (case a => k_is); (case l => k_is); (case c => k_is); (case k => k_is)))
    (case g_answer_one => (refine' Fs.fn_fact ?a ?l ?c ?k; (case a => k_is); (case l => k_is); (case c => k_is); (case k => k_is)))
    (case g_answers => (refine' Fs.fn_fact ?a ?l ?c ?k; (case a => k_is); (case l => k_is); (case c => k_is); (case k => k_is)))
    (case x_term => k_is)
    (case x_behind => k_is)
    (case x_grades => k_is)
    (case x_first_year => k_is)
    (case x_fathers => k_is)
    (case x_births => k_is)
    (case x_changes => k_is)
    (case x_earlier => k_is)
    (case x_later => k_is)
    (case z_len => k_is)
    (case z_abs => k_is)
    (case z_sum => k_is)
    (case z_max => k_is)
    (case z_range => k_is)
    (case z_list => k_is)
    (case i_MOST_TAKEN_BACK => k_is)
    (case i_NOT_THERE => k_is)
    (case i_FIRST_ALONE => k_is)
    (case i_ALREADY_SO => k_is)
    (case i_OUT_OF_BOUNDS => k_is)
    (case i_TOO_MANY => k_is)
    (case i_HAS_NONE => k_is)
    (case i_MOST_YEARS_A_TERM => k_is)
    (case i_MOST_SETS_BEHIND => k_is)
    (case i_MOST_GRADES => k_is)
    (case i_LATEST_FIRST_SET => k_is)
    (case i_LATEST_BIRTH => k_is)
    (case i_LATEST_YEAR_ASKED => k_is)
    (case i_HIGHEST_AGE_ASKED => k_is)
    (case i_OLDEST_FATHER_ASKED => k_is)
    (case i_MOST_FATHERS_ASKED => k_is)
    (case i_MOST_MEN => k_is)
    (case aCalls => k_is)
    (case lCalls => k_is)
    (case vCalls => repeat (first | exact .nil | refine .cons rfl ?_))
    (case sCalls => decide)
    (case aGiven => k_is)
    (case lGiven => k_is)
    (case vGiven => repeat (first | exact .nil | refine .cons ⟨_, rfl⟩ ?_))
    (case sGiven => decide)
  case S =>
    intro K H xs a hO hwi hask hx
    cases hx with
    | cons h1 h2 =>
      cases h2
      cases h1 with
      | lst hs ha =>
        have e := L2.ints_dw a.1 _ ha
        subst e
        have q : ((Codec.inLen 0 6000 a.1 && a.1.all (Codec.inInt 0 4294967295)) && true) = true := hwi
        rw [Bool.and_eq_true, Bool.and_eq_true] at q
        exact ⟨_, a.1, rfl, hs, (Codec.inNat_iff.mp q.1.1).2, hask, fun H' p hp => .lst (L2.SqL.of hp) (L2.dw_ints _)⟩
#print axioms PySem.Challenge.cw_fathersets_s01_answers_holds
