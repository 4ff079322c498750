import PyProof.Rows.All
import Wide.All
import OpenK.AllK
import Wide.FinOn
import PyProof.EqAt
import PyProof.EqKinds
import PyProof.TupleCall
import KE.BitLaws
import Open.SpecLaws
import KE.OsHead
import KE.OsGo
import PySem.Challenge.RW_coinrow_s01_answers
set_option Elab.async false
set_option linter.all false
/-! A graph by its neighbours in order: what can be come to, how far, the first plan, how many plans. -/
namespace Cm
section graph
variable {α : Type} (nb : α → List α)
/-- x can be come to from s in exactly so many steps -/
def reach (s : α) : Nat → α → Prop
  | 0, x => x = s
  | j + 1, x => ∃ y, reach s j y ∧ x ∈ nb y
def Dist (s x : α) (d : Nat) : Prop := reach nb s d x ∧ ∀ j, j < d → ¬ reach nb s j x
theorem reach_fwd {s x : α} : ∀ {j : Nat}, reach nb s (j + 1) x ↔ ∃ y, y ∈ nb s ∧ reach nb y j x := by
  intro j
  induction j generalizing x with
  | zero =>
    constructor
    · rintro ⟨y, rfl, h⟩; exact ⟨x, h, rfl⟩
    · rintro ⟨y, h, rfl⟩; exact ⟨s, rfl, h⟩
  | succ j ih =>
    constructor
    · rintro ⟨y, h, hx⟩
      obtain ⟨z, hz, hy⟩ := ih.mp h
      exact ⟨z, hz, y, hy, hx⟩
    · rintro ⟨z, hz, y, hy, hx⟩
      exact ⟨y, ih.mpr ⟨z, hz, hy⟩, hx⟩
theorem reach_sym (sym : ∀ x y, x ∈ nb y → y ∈ nb x) {s x : α} : ∀ {j : Nat}, reach nb s j x → reach nb x j s := by
  intro j
  induction j generalizing x with
  | zero => intro h; exact Eq.symm h
  | succ j ih =>
    rintro ⟨y, h, hx⟩
    exact (reach_fwd nb).mpr ⟨y, sym _ _ hx, ih h⟩
theorem Dist.sym (sym : ∀ x y, x ∈ nb y → y ∈ nb x) {s x : α} {d : Nat} (h : Dist nb s x d) : Dist nb x s d :=
  ⟨reach_sym nb sym h.1, fun j hj q => h.2 j hj (reach_sym nb sym q)⟩
theorem Dist.uniq {s x : α} {d e : Nat} (h : Dist nb s x d) (h' : Dist nb s x e) : d = e := by
  rcases Nat.lt_trichotomy d e with q | q | q
  · exact absurd h.1 (h'.2 d q)
  · exact q
  · exact absurd h'.1 (h.2 e q)
theorem Dist.ex {s x : α} {j : Nat} (h : reach nb s j x) : ∃ d, d ≤ j ∧ Dist nb s x d := by
  induction j using Nat.strongRecOn with
  | _ j ih =>
    by_cases q : ∃ i, i < j ∧ reach nb s i x
    · obtain ⟨i, hi, hr⟩ := q
      obtain ⟨d, hd, r⟩ := ih i hi hr
      exact ⟨d, by omega, r⟩
    · exact ⟨j, Nat.le_refl _, h, fun i hi r => q ⟨i, hi, r⟩⟩
theorem Dist.zero {s x : α} : Dist nb s x 0 ↔ x = s := ⟨fun h => h.1, fun h => ⟨h, fun _ hj => absurd hj (Nat.not_lt_zero _)⟩⟩
/-- one step farther: the elements at d + 1 are the neighbours of those at d that are not nearer -/
theorem Dist.succ {s x : α} {d : Nat} : Dist nb s x (d + 1) ↔ (∃ y, Dist nb s y d ∧ x ∈ nb y) ∧ ∀ j, j ≤ d → ¬ Dist nb s x j := by
  constructor
  · rintro ⟨⟨y, hy, hx⟩, hn⟩
    refine ⟨⟨y, ⟨hy, fun j hj r => hn (j + 1) (by omega) ⟨y, r, hx⟩⟩, hx⟩, fun j hj r => hn j (by omega) r.1⟩
  · rintro ⟨⟨y, hy, hx⟩, hn⟩
    refine ⟨⟨y, hy.1, hx⟩, fun j hj r => ?_⟩
    obtain ⟨i, hi, hd⟩ := Dist.ex nb r
    exact hn i (by omega) hd
/-- where none are at d none are farther -/
theorem Dist.none_from {s : α} {d : Nat} (h : ∀ x, ¬ Dist nb s x d) : ∀ e, d ≤ e → ∀ x, ¬ Dist nb s x e := by
  intro e he
  induction e with
  | zero => intro x; have : d = 0 := by omega
            subst this; exact h x
  | succ e ih =>
    intro x hx
    by_cases q : d = e + 1
    · subst q; exact h x hx
    · obtain ⟨⟨y, hy, _⟩, _⟩ := (Dist.succ nb).mp hx
      exact ih (by omega) y hy
/-- the first of a row of neighbours from which g gives something: its place ahead -/
def firstIn (g : α → Option (List Nat)) : Nat → List α → Option (List Nat)
  | _, [] => none
  | i, y :: r => match g y with
    | some p => some (i :: p)
    | none => firstIn g (i + 1) r
section
variable [DecidableEq α]
/-- the first of the plans of just so many turns from s to t -/
def firstPlan (t : α) : Nat → α → Option (List Nat)
  | 0, s => if s = t then some [] else none
  | d + 1, s => firstIn (firstPlan t d) 0 (nb s)
/-- how many plans of so many turns lead from s to t -/
def cnt (t : α) : Nat → α → Nat
  | 0, s => if s = t then 1 else 0
  | d + 1, s => ((nb s).map (cnt t d)).sum
end
theorem firstIn_none {g : α → Option (List Nat)} : ∀ {l : List α} {i : Nat}, firstIn g i l = none ↔ ∀ y ∈ l, g y = none := by
  intro l
  induction l with
  | nil => intro i; simp [firstIn]
  | cons y r ih =>
    intro i
    unfold firstIn
    cases e : g y with
    | some p => simp [e]
    | none => simp [e, ih]
/-- the place of the first, and what it gives -/
theorem firstIn_some {g : α → Option (List Nat)} : ∀ {l : List α} {i : Nat} {k : Nat} {y : α} {p : List Nat}, l[k]? = some y → g y = some p → (∀ j z, j < k → l[j]? = some z → g z = none) → firstIn g i l = some ((i + k) :: p) := by
  intro l
  induction l with
  | nil => intro i k y p h; simp at h
  | cons x r ih =>
    intro i k y p h hg hn
    cases k with
    | zero =>
      simp at h; subst h
      unfold firstIn; rw [hg]; rfl
    | succ k =>
      have h0 := hn 0 x (by omega) (by simp)
      unfold firstIn; rw [h0]
      show firstIn g (i + 1) r = _
      rw [ih (i := i + 1) (k := k) (by simpa using h) hg (fun j z hj hz => hn (j + 1) z (by omega) (by simpa using hz))]
      congr 2; omega
section
variable [DecidableEq α]
theorem firstPlan_len {t : α} : ∀ {d : Nat} {s : α} {p : List Nat}, firstPlan nb t d s = some p → p.length = d := by
  intro d
  induction d with
  | zero => intro s p h; unfold firstPlan at h; split at h <;> simp_all
  | succ d ih =>
    intro s p h
    unfold firstPlan at h
    suffices ∀ (l : List α) (i : Nat), firstIn (firstPlan nb t d) i l = some p → p.length = d + 1 from this _ _ h
    intro l
    induction l with
    | nil => intro i h; simp [firstIn] at h
    | cons y r ihl =>
      intro i h
      unfold firstIn at h
      cases e : firstPlan nb t d y with
      | some q => rw [e] at h; simp at h; subst h; simp [ih e]
      | none => rw [e] at h; exact ihl _ h
theorem firstPlan_reach {t : α} : ∀ {d : Nat} {s : α}, firstPlan nb t d s ≠ none ↔ reach nb s d t := by
  intro d
  induction d with
  | zero => intro s; unfold firstPlan reach; split <;> simp_all [eq_comm]
  | succ d ih =>
    intro s
    unfold firstPlan
    rw [Ne, firstIn_none, reach_fwd]
    constructor
    · intro h
      apply Classical.byContradiction
      intro hc
      apply h
      intro y hy
      apply Classical.byContradiction
      intro q
      exact hc ⟨y, hy, ih.mp q⟩
    · rintro ⟨y, hy, hr⟩ h
      exact ih.mpr hr (h y hy)
end
end graph
/-! Two graphs of one form: f leads the first into the second. -/
section iso
variable {α β : Type} [DecidableEq α] [DecidableEq β] {na : α → List α} {nb : β → List β} {f : α → β} {ok : α → Prop}
theorem iso_reach (hok : ∀ x, ok x → ∀ y ∈ na x, ok y) (hn : ∀ x, ok x → nb (f x) = (na x).map f) (inj : ∀ x y, ok x → ok y → f x = f y → x = y) {s : α} (hs : ok s) :
    ∀ {j : Nat} {x : α}, ok x → (reach nb (f s) j (f x) ↔ reach na s j x) := by
  intro j
  induction j generalizing s with
  | zero => intro x hx; exact ⟨fun h => inj _ _ hx hs h, fun h => congrArg f h⟩
  | succ j ih =>
    intro x hx
    rw [reach_fwd, reach_fwd, hn s hs]
    constructor
    · rintro ⟨y, hy, hr⟩
      obtain ⟨z, hz, rfl⟩ := List.mem_map.mp hy
      exact ⟨z, hz, (ih (hok s hs z hz) hx).mp hr⟩
    · rintro ⟨z, hz, hr⟩
      exact ⟨f z, List.mem_map.mpr ⟨z, hz, rfl⟩, (ih (hok s hs z hz) hx).mpr hr⟩
theorem iso_dist (hok : ∀ x, ok x → ∀ y ∈ na x, ok y) (hn : ∀ x, ok x → nb (f x) = (na x).map f) (inj : ∀ x y, ok x → ok y → f x = f y → x = y) {s x : α} (hs : ok s) (hx : ok x) {d : Nat} :
    Dist nb (f s) (f x) d ↔ Dist na s x d := by
  unfold Dist
  rw [iso_reach hok hn inj hs hx]
  constructor
  · exact fun h => ⟨h.1, fun j hj r => h.2 j hj ((iso_reach hok hn inj hs hx).mpr r)⟩
  · exact fun h => ⟨h.1, fun j hj r => h.2 j hj ((iso_reach hok hn inj hs hx).mp r)⟩
theorem firstIn_map {g : β → Option (List Nat)} {g' : α → Option (List Nat)} : ∀ (l : List α) (i : Nat), (∀ y ∈ l, g (f y) = g' y) → firstIn g i (l.map f) = firstIn g' i l := by
  intro l
  induction l with
  | nil => intros; rfl
  | cons y r ih =>
    intro i h
    rw [List.map_cons]
    unfold firstIn
    rw [h y (by simp), ih (i + 1) (fun z hz => h z (by simp [hz]))]
theorem iso_plan (hok : ∀ x, ok x → ∀ y ∈ na x, ok y) (hn : ∀ x, ok x → nb (f x) = (na x).map f) (inj : ∀ x y, ok x → ok y → f x = f y → x = y) {t : α} (ht : ok t) :
    ∀ {d : Nat} {s : α}, ok s → firstPlan nb (f t) d (f s) = firstPlan na t d s := by
  intro d
  induction d with
  | zero =>
    intro s hs
    unfold firstPlan
    by_cases e : s = t
    · subst e; simp
    · rw [if_neg e, if_neg (fun q => e (inj _ _ hs ht q))]
  | succ d ih =>
    intro s hs
    unfold firstPlan
    rw [hn s hs]
    exact firstIn_map _ _ fun y hy => ih (hok s hs y hy)
theorem iso_cnt (hok : ∀ x, ok x → ∀ y ∈ na x, ok y) (hn : ∀ x, ok x → nb (f x) = (na x).map f) (inj : ∀ x y, ok x → ok y → f x = f y → x = y) {t : α} (ht : ok t) :
    ∀ {d : Nat} {s : α}, ok s → cnt nb (f t) d (f s) = cnt na t d s := by
  intro d
  induction d with
  | zero =>
    intro s hs
    unfold cnt
    by_cases e : s = t
    · subst e; simp
    · rw [if_neg e, if_neg (fun q => e (inj _ _ hs ht q))]
  | succ d ih =>
    intro s hs
    unfold cnt
    rw [hn s hs, List.map_map]
    congr 1
    exact List.map_congr_left fun y hy => ih (hok s hs y hy)
end iso
end Cm
/-! The specification's arrays say how far. -/
namespace Cm
open Uw80
def nbX (fs : List Nat) (c : Nat) : List Nat := fs.map fun f => c ^^^ f
theorem mem_nbX {fs : List Nat} {c e : Nat} : e ∈ nbX fs c ↔ ∃ f ∈ fs, e = c ^^^ f := by
  unfold nbX
  rw [List.mem_map]
  exact ⟨fun ⟨f, h, e⟩ => ⟨f, h, e.symm⟩, fun ⟨f, h, e⟩ => ⟨f, h, e.symm⟩⟩
theorem xor_xor (c f : Nat) : (c ^^^ f) ^^^ f = c := by rw [Nat.xor_assoc, Nat.xor_self, Nat.xor_zero]
theorem symX {fs : List Nat} : ∀ x y, x ∈ nbX fs y → y ∈ nbX fs x := by
  intro x y h
  obtain ⟨f, hf, rfl⟩ := mem_nbX.mp h
  exact mem_nbX.mpr ⟨f, hf, (xor_xor y f).symm⟩
theorem getD_set (a : Array Nat) (i j v x : Nat) : (a.set! i v).getD j x = if i = j ∧ j < a.size then v else a.getD j x := by
  simp only [Array.set!_eq_setIfInBounds, Array.getD_eq_getD_getElem?, Array.getElem?_setIfInBounds]
  by_cases h : i = j
  · subst h
    by_cases q : i < a.size
    · simp [q]
    · simp [q]
  · simp [h]
theorem getD_any (a : Array Nat) {j x y : Nat} (h : j < a.size) : a.getD j x = a.getD j y := by
  simp [Array.getD_eq_getD_getElem?, h]
theorem size_set (a : Array Nat) (i v : Nat) : (a.set! i v).size = a.size := by simp
/-- how many entries are 0 -/
def zeros (a : Array Nat) : Nat := a.toList.countP (· == 0)
theorem zeros_set (a : Array Nat) {i v : Nat} (hi : i < a.size) (h0 : a.getD i 1 = 0) (hv : v ≠ 0) : zeros (a.set! i v) + 1 = zeros a := by
  unfold zeros
  rw [Array.set!_eq_setIfInBounds, Array.toList_setIfInBounds, List.countP_set (by simpa using hi)]
  have e : a.toList[i]'(by simpa using hi) = 0 := by
    have := h0
    simp [Array.getD_eq_getD_getElem?, hi] at this
    simpa using this
  rw [e]
  have pos : 0 < a.toList.countP (· == 0) := List.countP_pos_iff.mpr ⟨0, e ▸ List.getElem_mem _, by simp⟩
  have ev : (v == 0) = false := by simp [hv]
  simp only [ev, beq_self_eq_true, if_true, Bool.false_eq_true, if_false]
  omega
/-- what is had after a part of a wave -/
structure Got (n d : Nat) (a : Array Nat) (cs : Nat → Prop) (x : Array Nat × List Nat) : Prop where
  size : x.1.size = 2 ^ n
  val : ∀ e, e < 2 ^ n → x.1.getD e 0 = if a.getD e 0 = 0 ∧ e ∈ x.2 then d + 1 else a.getD e 0
  mem : ∀ e, e ∈ x.2 ↔ e < 2 ^ n ∧ a.getD e 0 = 0 ∧ cs e
  zer : zeros x.1 + x.2.length = zeros a
theorem Got.congr {n d : Nat} {a : Array Nat} {cs cs' : Nat → Prop} {x : Array Nat × List Nat} (g : Got n d a cs x) (h : ∀ e, cs e ↔ cs' e) : Got n d a cs' x :=
  ⟨g.size, g.val, fun e => by rw [g.mem, h], g.zer⟩
theorem Got.one {n d : Nat} {a : Array Nat} {cs : Nat → Prop} {x : Array Nat × List Nat} (_ha : a.size = 2 ^ n) (g : Got n d a cs x) {e : Nat} (he : e < 2 ^ n) :
    Got n d a (fun y => cs y ∨ y = e) (if x.1.getD e 1 = 0 then (x.1.set! e (d + 1), x.2 ++ [e]) else x) := by
  have hv := g.val e he
  have e1 : x.1.getD e 1 = x.1.getD e 0 := getD_any _ (by rw [g.size]; exact he)
  by_cases q : x.1.getD e 1 = 0
  · rw [if_pos q]
    have q' : x.1.getD e 0 = 0 := e1 ▸ q
    have hae : a.getD e 0 = 0 ∧ ¬ e ∈ x.2 := by
      rw [hv] at q'
      split at q'
      · omega
      · rename_i h; exact ⟨q', fun m => h ⟨q', m⟩⟩
    refine ⟨by rw [size_set]; exact g.size, fun y hy => ?_, fun y => ?_, ?_⟩
    · show (x.1.set! e (d + 1)).getD y 0 = if a.getD y 0 = 0 ∧ y ∈ x.2 ++ [e] then d + 1 else a.getD y 0
      rw [getD_set, g.size]
      by_cases h : e = y
      · subst h
        rw [if_pos ⟨rfl, hy⟩, if_pos ⟨hae.1, by simp⟩]
      · rw [if_neg (fun z => h z.1), g.val y hy]
        have : (y ∈ x.2 ++ [e]) ↔ y ∈ x.2 := by simp; exact fun z => absurd z.symm h
        simp only [this]
    · show y ∈ x.2 ++ [e] ↔ _
      rw [List.mem_append, g.mem]
      simp
      constructor
      · rintro (h | rfl)
        · exact ⟨h.1, h.2.1, .inl h.2.2⟩
        · exact ⟨he, by simpa using hae.1, .inr rfl⟩
      · rintro ⟨h1, h2, h3 | h3⟩
        · exact .inl ⟨h1, h2, h3⟩
        · exact .inr h3
    · show zeros (x.1.set! e (d + 1)) + (x.2 ++ [e]).length = zeros a
      have := zeros_set x.1 (i := e) (v := d + 1) (by rw [g.size]; exact he) q (by omega)
      have z := g.zer
      rw [List.length_append]
      show _ + (_ + 1) = _
      omega
  · rw [if_neg q]
    refine ⟨g.size, g.val, fun y => ?_, g.zer⟩
    rw [g.mem]
    constructor
    · rintro ⟨h1, h2, h3⟩; exact ⟨h1, h2, .inl h3⟩
    · rintro ⟨h1, h2, h3 | rfl⟩
      · exact ⟨h1, h2, h3⟩
      · refine ⟨h1, h2, ?_⟩
        have : x.1.getD y 0 ≠ 0 := e1 ▸ q
        rw [hv] at this
        split at this
        · rename_i h; exact ((g.mem y).mp h.2).2.2
        · exact absurd h2 this
theorem wave_in {n d c : Nat} {a : Array Nat} (ha : a.size = 2 ^ n) (hc : c < 2 ^ n) : ∀ (fs : List Nat) (cs : Nat → Prop) (x : Array Nat × List Nat), (∀ f ∈ fs, f < 2 ^ n) → Got n d a cs x →
    Got n d a (fun y => cs y ∨ y ∈ nbX fs c) (fs.foldl (fun x f => let e := c ^^^ f
  if x.1.getD e 1 = 0 then (x.1.set! e (d + 1), x.2 ++ [e]) else x) x) := by
  intro fs
  induction fs with
  | nil => intro cs x _ g; exact g.congr fun e => by simp [nbX]
  | cons f r ih =>
    intro cs x hf g
    rw [List.foldl_cons]
    refine (ih _ _ (fun z hz => hf z (by simp [hz])) (g.one ha (e := c ^^^ f) (Nat.xor_lt_two_pow hc (hf f (by simp))))).congr fun e => ?_
    simp [nbX, or_assoc]
theorem wave_got {n d : Nat} {fs : List Nat} {a : Array Nat} (ha : a.size = 2 ^ n) (hf : ∀ f ∈ fs, f < 2 ^ n) : ∀ (l : List Nat) (cs : Nat → Prop) (x : Array Nat × List Nat), (∀ c ∈ l, c < 2 ^ n) → Got n d a cs x →
    Got n d a (fun y => cs y ∨ ∃ c ∈ l, y ∈ nbX fs c) (l.foldl (fun x c => fs.foldl (fun x f => let e := c ^^^ f
  if x.1.getD e 1 = 0 then (x.1.set! e (d + 1), x.2 ++ [e]) else x) x) x) := by
  intro l
  induction l with
  | nil => intro cs x _ g; exact g.congr fun e => by simp
  | cons c r ih =>
    intro cs x hl g
    rw [List.foldl_cons]
    refine (ih _ _ (fun z hz => hl z (by simp [hz])) (wave_in ha (hl c (by simp)) fs cs x hf g)).congr fun e => ?_
    simp [or_assoc]
/-- what holds between two waves -/
structure Wav (n : Nat) (fs : List Nat) (s d : Nat) (a : Array Nat) (l : List Nat) : Prop where
  size : a.size = 2 ^ n
  val : ∀ e j, e < 2 ^ n → (a.getD e 0 = j + 1 ↔ j ≤ d ∧ Dist (nbX fs) s e j)
  mem : ∀ e, e ∈ l ↔ Dist (nbX fs) s e d
theorem reach_lt {n : Nat} {fs : List Nat} {s : Nat} (hf : ∀ f ∈ fs, f < 2 ^ n) (hs : s < 2 ^ n) : ∀ {j : Nat} {e : Nat}, reach (nbX fs) s j e → e < 2 ^ n := by
  intro j
  induction j with
  | zero => intro e h; cases h; exact hs
  | succ j ih =>
    rintro e ⟨y, hy, hx⟩
    obtain ⟨f, hff, rfl⟩ := mem_nbX.mp hx
    exact Nat.xor_lt_two_pow (ih hy) (hf f hff)
theorem Wav.next {n s d : Nat} {fs : List Nat} {a : Array Nat} {l : List Nat} (hf : ∀ f ∈ fs, f < 2 ^ n) (hs : s < 2 ^ n) (W : Wav n fs s d a l) :
    Wav n fs s (d + 1) (wave fs a l (d + 1)).1 (wave fs a l (d + 1)).2 ∧ zeros (wave fs a l (d + 1)).1 + (wave fs a l (d + 1)).2.length = zeros a := by
  have g0 : Got n (d + 1) a (fun _ => False) (a, []) := ⟨W.size, fun e he => by simp, fun e => by simp, by simp⟩
  have G := wave_got W.size hf l _ _ (fun c hc => reach_lt hf hs ((W.mem c).mp hc).1) g0
  have G : Got n (d + 1) a (fun y => False ∨ ∃ c ∈ l, y ∈ nbX fs c) (wave fs a l (d + 1)) := G
  have zero_iff : ∀ e, e < 2 ^ n → (a.getD e 0 = 0 ↔ ∀ j, j ≤ d → ¬ Dist (nbX fs) s e j) := by
    intro e he
    constructor
    · intro h j hj hd
      have := (W.val e j he).mpr ⟨hj, hd⟩
      omega
    · intro h
      cases q : a.getD e 0 with
      | zero => rfl
      | succ j => exact absurd ((W.val e j he).mp q).2 (h j ((W.val e j he).mp q).1)
  have mem' : ∀ e, e ∈ (wave fs a l (d + 1)).2 ↔ Dist (nbX fs) s e (d + 1) := by
    intro e
    rw [G.mem, Dist.succ]
    constructor
    · rintro ⟨he, h0, h1 | ⟨c, hc, hn⟩⟩
      · exact h1.elim
      · exact ⟨⟨c, (W.mem c).mp hc, hn⟩, (zero_iff e he).mp h0⟩
    · rintro ⟨⟨y, hy, hn⟩, h⟩
      have he : e < 2 ^ n := reach_lt hf hs (j := d + 1) ⟨y, hy.1, hn⟩
      exact ⟨he, (zero_iff e he).mpr h, .inr ⟨y, (W.mem y).mpr hy, hn⟩⟩
  refine ⟨⟨G.size, fun e j he => ?_, mem'⟩, G.zer⟩
  rw [G.val e he]
  by_cases q' : a.getD e 0 = 0 ∧ e ∈ (wave fs a l (d + 1)).2
  · rw [if_pos q']
    have q : a.getD e 0 = 0 ∧ Dist (nbX fs) s e (d + 1) := ⟨q'.1, (mem' e).mp q'.2⟩
    constructor
    · intro h
      have : j = d + 1 := by omega
      subst this
      exact ⟨Nat.le_refl _, q.2⟩
    · rintro ⟨_, h⟩
      have := Dist.uniq _ h q.2
      omega
  · rw [if_neg q', W.val e j he]
    constructor
    · rintro ⟨h1, h2⟩; exact ⟨by omega, h2⟩
    · rintro ⟨h1, h2⟩
      refine ⟨?_, h2⟩
      apply Classical.byContradiction
      intro h
      have : j = d + 1 := by omega
      subst this
      exact q' ⟨(zero_iff e he).mpr ((Dist.succ _).mp h2).2, (mem' e).mpr h2⟩
theorem waves_all {n s : Nat} {fs : List Nat} (hf : ∀ f ∈ fs, f < 2 ^ n) (hs : s < 2 ^ n) : ∀ (fuel d : Nat) (a : Array Nat) (l : List Nat), Wav n fs s d a l → (l = [] ∨ zeros a + 1 ≤ fuel) →
    (waves fs fuel (d + 1) a l).size = 2 ^ n ∧ ∀ e j, e < 2 ^ n → ((waves fs fuel (d + 1) a l).getD e 0 = j + 1 ↔ Dist (nbX fs) s e j) := by
  intro fuel
  induction fuel with
  | zero =>
    intro d a l W h
    have hl : l = [] := h.elim id (fun q => by omega)
    subst hl
    refine ⟨W.size, fun e j he => ?_⟩
    show a.getD e 0 = _ ↔ _
    rw [W.val e j he]
    refine ⟨fun h => h.2, fun h => ⟨?_, h⟩⟩
    apply Classical.byContradiction
    intro q
    exact Dist.none_from _ (d := d) (fun x hx => by simpa using (W.mem x).mpr hx) j (by omega) e h
  | succ fuel ih =>
    intro d a l W h
    unfold waves
    by_cases hl : l = []
    · subst hl
      rw [if_pos (show ([] : List Nat).isEmpty = true from rfl)]
      refine ⟨W.size, fun e j he => ?_⟩
      rw [W.val e j he]
      refine ⟨fun h => h.2, fun h => ⟨?_, h⟩⟩
      apply Classical.byContradiction
      intro q
      exact Dist.none_from _ (d := d) (fun x hx => by simpa using (W.mem x).mpr hx) j (by omega) e h
    · rw [if_neg (by simpa using hl)]
      obtain ⟨W', z⟩ := W.next hf hs
      refine ih (d + 1) _ _ W' ?_
      have h' : zeros a + 1 ≤ fuel + 1 := h.elim (fun q => absurd q hl) id
      by_cases q : (wave fs a l (d + 1)).2 = []
      · exact .inl q
      · right
        have : 0 < (wave fs a l (d + 1)).2.length := List.length_pos_iff.mpr q
        omega
/-- the array of distances from s -/
def farX (n : Nat) (fs : List Nat) (s : Nat) : Array Nat := waves fs (2 ^ n + 1) 1 ((Array.replicate (2 ^ n) 0).set! s 1) [s]
theorem farX_is {n s : Nat} {fs : List Nat} (hf : ∀ f ∈ fs, f < 2 ^ n) (hs : s < 2 ^ n) :
    (farX n fs s).size = 2 ^ n ∧ ∀ e j, e < 2 ^ n → ((farX n fs s).getD e 0 = j + 1 ↔ Dist (nbX fs) s e j) := by
  refine waves_all hf hs (2 ^ n + 1) 0 _ _ ⟨by simp, fun e j he => ?_, fun e => ?_⟩ (.inr ?_)
  · rw [getD_set]
    by_cases q : s = e
    · subst q
      rw [if_pos ⟨rfl, by simpa using he⟩]
      constructor
      · intro h
        have : j = 0 := by omega
        subst this
        exact ⟨Nat.le_refl _, (Dist.zero _).mpr rfl⟩
      · rintro ⟨h, _⟩; omega
    · rw [if_neg (fun z => q z.1)]
      have : (Array.replicate (2 ^ n) 0).getD e 0 = 0 := by simp [Array.getD_eq_getD_getElem?, he]
      rw [this]
      constructor
      · intro h; omega
      · rintro ⟨h, hd⟩
        have : j = 0 := by omega
        subst this
        exact absurd ((Dist.zero _).mp hd).symm q
  · rw [Dist.zero]; simp
  · have : zeros ((Array.replicate (2 ^ n) 0).set! s 1) + 1 = zeros (Array.replicate (2 ^ n) 0) := zeros_set _ (by simpa using hs) (by simp [Array.getD_eq_getD_getElem?, hs]) (by decide)
    have h2 : zeros (Array.replicate (2 ^ n) 0) ≤ 2 ^ n := by
      unfold zeros
      refine Nat.le_trans List.countP_le_length ?_
      simp
    omega
theorem farX_zero {n s : Nat} {fs : List Nat} (hf : ∀ f ∈ fs, f < 2 ^ n) (hs : s < 2 ^ n) {e : Nat} (he : e < 2 ^ n) : (farX n fs s).getD e 0 = 0 ↔ ∀ j, ¬ Dist (nbX fs) s e j := by
  constructor
  · intro h j hj
    have := ((farX_is hf hs).2 e j he).mpr hj
    omega
  · intro h
    cases q : (farX n fs s).getD e 0 with
    | zero => rfl
    | succ j => exact absurd (((farX_is hf hs).2 e j he).mp q) (h j)
/-- the plan from the array is the first plan -/
theorem planFrom_is {n t : Nat} {fs : List Nat} (hf : ∀ f ∈ fs, f < 2 ^ n) (ht : t < 2 ^ n) : ∀ (d c : Nat), c < 2 ^ n → Dist (nbX fs) c t d → firstPlan (nbX fs) t d c = some (planFrom fs (farX n fs t) d c) := by
  intro d
  induction d with
  | zero =>
    intro c _ h
    have := (Dist.zero _).mp h
    subst this
    simp [firstPlan, planFrom]
  | succ d ih =>
    intro c hc h
    have key : ∀ i f, fs[i]? = some f → ((farX n fs t).getD (c ^^^ fs.getD i 0) 0 == d + 1) = (firstPlan (nbX fs) t d (c ^^^ f)).isSome := by
      intro i f hi
      have e1 : fs.getD i 0 = f := by simp [hi]
      rw [e1]
      have hfm : f ∈ fs := List.mem_of_getElem? hi
      have hlt : c ^^^ f < 2 ^ n := Nat.xor_lt_two_pow hc (hf f hfm)
      rw [Bool.eq_iff_iff, beq_iff_eq, (farX_is hf ht).2 _ d hlt, Option.isSome_iff_ne_none, firstPlan_reach]
      constructor
      · intro q; exact reach_sym _ symX q.1
      · intro q
        refine Dist.sym _ symX ⟨q, fun j hj r => ?_⟩
        exact h.2 (j + 1) (by omega) ((reach_fwd _).mpr ⟨c ^^^ f, mem_nbX.mpr ⟨f, hfm, rfl⟩, r⟩)
    obtain ⟨y, hy, hr⟩ := (reach_fwd _).mp h.1
    obtain ⟨f0, hf0, rfl⟩ := mem_nbX.mp hy
    unfold planFrom
    cases q : (List.range fs.length).find? fun i => (farX n fs t).getD (c ^^^ fs.getD i 0) 0 == d + 1 with
    | none =>
      exfalso
      rw [List.find?_eq_none] at q
      obtain ⟨i, hi, hi'⟩ := List.mem_iff_getElem.mp hf0
      have hi0 : fs[i]? = some f0 := by rw [List.getElem?_eq_getElem hi, hi']
      have := q i (by simpa using hi)
      rw [key i f0 hi0] at this
      apply this
      exact Option.isSome_iff_ne_none.mpr ((firstPlan_reach _).mpr hr)
    | some i =>
      rw [List.find?_range_eq_some] at q
      obtain ⟨q1, q2, q3⟩ := q
      have hil : i < fs.length := by simpa using q2
      have hi0 : fs[i]? = some fs[i] := List.getElem?_eq_getElem hil
      have e1 : fs.getD i 0 = fs[i] := by simp [hil]
      have hfm : fs[i] ∈ fs := List.getElem_mem _
      rw [key i _ hi0] at q1
      have hlt : c ^^^ fs[i] < 2 ^ n := Nat.xor_lt_two_pow hc (hf _ hfm)
      have hd : Dist (nbX fs) (c ^^^ fs[i]) t d := by
        have q := (firstPlan_reach _).mp (Option.isSome_iff_ne_none.mp q1)
        exact ⟨q, fun j hj r => h.2 (j + 1) (by omega) ((reach_fwd _).mpr ⟨_, mem_nbX.mpr ⟨_, hfm, rfl⟩, r⟩)⟩
      have r := ih _ hlt hd
      show firstPlan (nbX fs) t (d + 1) c = some (i :: planFrom fs (farX n fs t) d (c ^^^ fs.getD i 0))
      rw [e1]
      show firstIn _ 0 (nbX fs c) = _
      rw [firstIn_some (k := i) (y := c ^^^ fs[i]) (by simp [nbX, hil]) r]
      · simp
      · intro j z hj hz
        have hjl : j < fs.length := by omega
        have hz' : z = c ^^^ fs[j] := by
          simp [nbX, hjl] at hz
          exact hz.symm
        subst hz'
        have := q3 j hj
        rw [key j _ (List.getElem?_eq_getElem hjl)] at this
        simpa using this
end Cm
/-! Rows and their numbers. -/
namespace Cm
open Uw80
structure OkRow (n : Nat) (row : List Nat) : Prop where
  len : row.length = n
  bit : ∀ c ∈ row, c ≤ 1
theorem foldl_code : ∀ (row : List Nat) (acc : Nat), row.foldl (fun n c => 2 * n + c) acc = 2 ^ row.length * acc + code row := by
  intro row
  induction row with
  | nil => intro acc; simp [code]
  | cons c r ih =>
    intro acc
    have e1 : code (c :: r) = r.foldl (fun n c => 2 * n + c) (2 * 0 + c) := rfl
    rw [e1, List.foldl_cons, ih, ih, List.length_cons, Nat.pow_succ, Nat.mul_add]
    have : 2 ^ r.length * (2 * acc) = 2 ^ r.length * 2 * acc := by rw [Nat.mul_assoc]
    rw [this]
    simp
    omega
theorem code_cons (c : Nat) (r : List Nat) : code (c :: r) = 2 ^ r.length * c + code r := by
  have e1 : code (c :: r) = r.foldl (fun n c => 2 * n + c) (2 * 0 + c) := rfl
  rw [e1, foldl_code]
  simp
theorem code_lt : ∀ {row : List Nat}, (∀ c ∈ row, c ≤ 1) → code row < 2 ^ row.length := by
  intro row
  induction row with
  | nil => intro _; simp [code]
  | cons c r ih =>
    intro h
    rw [code_cons, List.length_cons, Nat.pow_succ]
    have h1 := ih fun x hx => h x (by simp [hx])
    have h2 := h c (by simp)
    have : 2 ^ r.length * c ≤ 2 ^ r.length * 1 := Nat.mul_le_mul_left _ h2
    omega
theorem code_bit : ∀ {row : List Nat}, (∀ c ∈ row, c ≤ 1) → ∀ i, i < row.length → (code row).testBit (row.length - 1 - i) = decide (row[i]? = some 1) := by
  intro row
  induction row with
  | nil => intro _ i hi; simp at hi
  | cons c r ih =>
    intro h i hi
    have hr : ∀ x ∈ r, x ≤ 1 := fun x hx => h x (by simp [hx])
    have hc := h c (by simp)
    rw [code_cons, Nat.testBit_two_pow_mul_add _ (code_lt hr)]
    cases i with
    | zero =>
      rw [List.length_cons]
      rw [if_neg (by omega)]
      have : r.length + 1 - 1 - 0 - r.length = 0 := by omega
      rw [this, Nat.testBit_zero]
      simp
      omega
    | succ i =>
      rw [List.length_cons] at hi ⊢
      rw [if_pos (by omega)]
      have : r.length + 1 - 1 - (i + 1) = r.length - 1 - i := by omega
      rw [this, ih hr i (by omega)]
      simp
theorem OkRow.lt {n : Nat} {row : List Nat} (h : OkRow n row) : code row < 2 ^ n := h.len ▸ code_lt h.bit
theorem OkRow.tb {n : Nat} {row : List Nat} (h : OkRow n row) {i : Nat} (hi : i < n) : (code row).testBit (n - 1 - i) = decide (row[i]? = some 1) := by
  have := code_bit h.bit i (h.len ▸ hi)
  rw [h.len] at this
  exact this
theorem code_inj {n : Nat} {a b : List Nat} (ha : OkRow n a) (hb : OkRow n b) (h : code a = code b) : a = b := by
  apply List.ext_getElem?
  intro i
  by_cases hi : i < n
  · have e1 := ha.tb hi
    have e2 := hb.tb hi
    rw [h, e2] at e1
    have hia : i < a.length := ha.len ▸ hi
    have hib : i < b.length := hb.len ▸ hi
    have h1 := ha.bit a[i] (List.getElem_mem _)
    have h2 := hb.bit b[i] (List.getElem_mem _)
    rw [List.getElem?_eq_getElem hia, List.getElem?_eq_getElem hib] at e1 ⊢
    simp at e1 ⊢
    omega
  · rw [List.getElem?_eq_none (by rw [ha.len]; omega), List.getElem?_eq_none (by rw [hb.len]; omega)]
theorem rowOf_len (n c : Nat) : (rowOf n c).length = n := by simp [rowOf]
theorem rowOf_ok (n c : Nat) : OkRow n (rowOf n c) := by
  refine ⟨rowOf_len n c, fun x hx => ?_⟩
  simp [rowOf] at hx
  obtain ⟨i, _, rfl⟩ := hx
  omega
theorem code_rowOf {n c : Nat} (hc : c < 2 ^ n) : code (rowOf n c) = c := by
  apply Nat.eq_of_testBit_eq
  intro j
  by_cases hj : j < n
  · have := (rowOf_ok n c).tb (i := n - 1 - j) (by omega)
    have e : n - 1 - (n - 1 - j) = j := by omega
    rw [e] at this
    have hl : n - 1 - j < n := by omega
    have e2 : (rowOf n c)[n - 1 - j]? = some (c / 2 ^ j % 2) := by
      unfold rowOf
      rw [List.getElem?_map, List.getElem?_range hl, Option.map_some, e]
    rw [this, e2, Nat.testBit_eq_decide_div_mod_eq]
    simp
  · rw [Nat.testBit_lt_two_pow (Nat.lt_of_lt_of_le (rowOf_ok n c).lt (Nat.pow_le_pow_right (by decide) (by omega))),
      Nat.testBit_lt_two_pow (Nat.lt_of_lt_of_le hc (Nat.pow_le_pow_right (by decide) (by omega)))]
theorem rowOf_code {n : Nat} {row : List Nat} (h : OkRow n row) : rowOf n (code row) = row :=
  code_inj (rowOf_ok n _) h (code_rowOf h.lt)
/-! What a turn does. -/
theorem flip_snoc (n : Nat) (q : List Nat) (x : Nat) : Uw80.flip n (q ++ [x]) = Uw80.flip n q + 2 ^ (n - 1 - x) := by simp [Uw80.flip]
structure Rising (n : Nat) (p : List Nat) : Prop where
  up : p.Pairwise (· < ·)
  lt : ∀ x ∈ p, x < n
theorem flip_mul {n x : Nat} (hx : x < n) : ∀ (q : List Nat), (∀ y ∈ q, y < x) → ∃ m, Uw80.flip n q = 2 ^ (n - x) * m := by
  intro q
  suffices ∀ (q : List Nat) (s m : Nat), s = 2 ^ (n - x) * m → (∀ y ∈ q, y < x) → ∃ m, q.foldl (fun s p => s + 2 ^ (n - 1 - p)) s = 2 ^ (n - x) * m from
    fun h => this q 0 0 (by simp) h
  intro q
  induction q with
  | nil => intro s m h _; exact ⟨m, h⟩
  | cons y r ih =>
    intro s m h hy
    rw [List.foldl_cons]
    have h1 := hy y (by simp)
    have e : 2 ^ (n - 1 - y) = 2 ^ (n - x) * 2 ^ (x - 1 - y) := by rw [← Nat.pow_add]; congr 1; omega
    exact ih _ (m + 2 ^ (x - 1 - y)) (by rw [h, e, Nat.mul_add]) fun z hz => hy z (by simp [hz])
theorem flip_bit {n : Nat} : ∀ (k : Nat) (p : List Nat), p.length = k → Rising n p → ∀ j, (Uw80.flip n p).testBit j = decide (j < n ∧ n - 1 - j ∈ p) := by
  intro k
  induction k with
  | zero =>
    intro p hp _ j
    have : p = [] := List.length_eq_zero_iff.mp hp
    subst this
    simp [Uw80.flip]
  | succ k ih =>
    intro p hp R j
    have hne : p ≠ [] := by intro e; subst e; simp at hp
    obtain ⟨q, x, rfl⟩ : ∃ q x, p = q ++ [x] := ⟨p.dropLast, p.getLast hne, (List.dropLast_concat_getLast hne).symm⟩
    have hql : q.length = k := by simpa using hp
    have Rq : Rising n q := ⟨(List.pairwise_append.mp R.up).1, fun y hy => R.lt y (by simp [hy])⟩
    have hlt : ∀ y ∈ q, y < x := fun y hy => (List.pairwise_append.mp R.up).2.2 y hy x (by simp)
    have hx : x < n := R.lt x (by simp)
    have IH := ih q hql Rq j
    obtain ⟨m, hm⟩ := flip_mul hx q hlt
    rw [flip_snoc, hm, Nat.testBit_two_pow_mul_add _ (Nat.pow_lt_pow_right (by decide) (by omega : n - 1 - x < n - x))]
    rw [hm, Nat.testBit_two_pow_mul] at IH
    by_cases hj : j < n - x
    · rw [if_pos hj, Nat.testBit_two_pow]
      congr 1
      simp only [List.mem_append, List.mem_singleton, eq_iff_iff]
      constructor
      · intro e; exact ⟨by omega, .inr (by omega)⟩
      · rintro ⟨h1, h2 | h2⟩
        · have := hlt _ h2; omega
        · omega
    · rw [if_neg hj]
      have : decide (j ≥ n - x) = true := by simp; omega
      rw [this, Bool.true_and] at IH
      rw [IH]
      congr 1
      simp only [List.mem_append, List.mem_singleton, eq_iff_iff]
      constructor
      · rintro ⟨h1, h2⟩; exact ⟨h1, .inl h2⟩
      · rintro ⟨h1, h2 | h2⟩
        · exact ⟨h1, h2⟩
        · omega
theorem Rising.tb {n : Nat} {p : List Nat} (R : Rising n p) (j : Nat) : (Uw80.flip n p).testBit j = decide (j < n ∧ n - 1 - j ∈ p) := flip_bit _ p rfl R j
theorem Rising.flt {n : Nat} {p : List Nat} (R : Rising n p) : Uw80.flip n p < 2 ^ n := by
  apply Nat.lt_pow_two_of_testBit
  intro i hi
  rw [R.tb]
  simp
  omega
theorem turned_len (row p : List Nat) : (turned row p).length = row.length := by simp [turned]
theorem turned_get {row p : List Nat} {i : Nat} (hi : i < row.length) : (turned row p)[i]? = some (if p.contains i = true then 1 - row[i] else row[i]) := by
  simp [turned, hi]
theorem turned_ok {n : Nat} {row p : List Nat} (h : OkRow n row) : OkRow n (turned row p) := by
  refine ⟨by rw [turned_len, h.len], fun c hc => ?_⟩
  obtain ⟨i, hi, rfl⟩ := List.mem_iff_getElem.mp hc
  rw [turned_len] at hi
  have e := turned_get (p := p) hi
  rw [List.getElem?_eq_getElem (by rw [turned_len]; exact hi)] at e
  have e := Option.some.inj e
  rw [e]
  have := h.bit row[i] (List.getElem_mem _)
  split <;> omega
theorem code_turned {n : Nat} {row p : List Nat} (h : OkRow n row) (R : Rising n p) : code (turned row p) = code row ^^^ Uw80.flip n p := by
  apply Nat.eq_of_testBit_eq
  intro j
  rw [Nat.testBit_xor, R.tb]
  by_cases hj : j < n
  · have e : n - 1 - (n - 1 - j) = j := by omega
    have e1 := (turned_ok (p := p) h).tb (i := n - 1 - j) (by omega)
    have e2 := h.tb (i := n - 1 - j) (by omega)
    rw [e] at e1 e2
    have hi : n - 1 - j < row.length := by rw [h.len]; omega
    rw [e1, e2, turned_get hi, List.getElem?_eq_getElem hi]
    have := h.bit row[n - 1 - j] (List.getElem_mem _)
    by_cases q : n - 1 - j ∈ p
    · have : p.contains (n - 1 - j) = true := by simpa using q
      simp only [this, if_true, hj, q]
      simp
      rcases (by omega : row[n - 1 - j] = 0 ∨ row[n - 1 - j] = 1) with z | z <;> simp [z]
    · have : p.contains (n - 1 - j) = false := by simpa using q
      simp only [this, hj, q]
      simp
  · rw [Nat.testBit_lt_two_pow (Nat.lt_of_lt_of_le (turned_ok (p := p) h).lt (Nat.pow_le_pow_right (by decide) (by omega))),
      Nat.testBit_lt_two_pow (Nat.lt_of_lt_of_le h.lt (Nat.pow_le_pow_right (by decide) (by omega)))]
    simp [hj]
/-! The turns. -/
theorem choices_sub : ∀ {l : List Nat} {k : Nat} {p : List Nat}, p ∈ choices k l → p.Sublist l ∧ p.length = k := by
  intro l
  induction l with
  | nil =>
    intro k p h
    cases k with
    | zero => simp [choices] at h; subst h; simp
    | succ k => simp [choices] at h
  | cons x r ih =>
    intro k p h
    cases k with
    | zero => simp [choices] at h; subst h; simp
    | succ k =>
      simp [choices] at h
      rcases h with ⟨q, hq, rfl⟩ | h
      · have := ih hq
        exact ⟨this.1.cons_cons x, by simp [this.2]⟩
      · have := ih h
        exact ⟨this.1.cons x, this.2⟩
theorem rising_sub {n : Nat} {p : List Nat} (h : p.Sublist (List.range n)) : Rising n p :=
  ⟨List.pairwise_lt_range.sublist h, fun x hx => List.mem_range.mp (h.subset hx)⟩
theorem turns_rising {m k n : Nat} {p : List Nat} (h : p ∈ turns m k n) : Rising n p := by
  unfold turns at h
  split at h
  · exact rising_sub (choices_sub h).1
  · split at h
    · simp at h
      obtain ⟨i, hi, rfl⟩ := h
      refine ⟨?_, fun x hx => ?_⟩
      · rw [List.pairwise_map]
        exact List.pairwise_lt_range.imp fun h => by omega
      · simp at hx
        obtain ⟨j, hj, rfl⟩ := hx
        omega
    · obtain ⟨i, hi, rfl⟩ := List.mem_map.mp h
      exact rising_sub List.filter_sublist
/-- the neighbours of a row -/
def nbR (m k : Nat) (row : List Nat) : List (List Nat) := (turns m k row.length).map (turned row)
/-- what the turns do to a number -/
def fsOf (m k n : Nat) : List Nat := (turns m k n).map (Uw80.flip n)
theorem fsOf_lt {m k n : Nat} : ∀ f ∈ fsOf m k n, f < 2 ^ n := by
  intro f hf
  obtain ⟨p, hp, rfl⟩ := List.mem_map.mp hf
  exact (turns_rising hp).flt
theorem nb_ok {m k n : Nat} : ∀ x, OkRow n x → ∀ y ∈ nbR m k x, OkRow n y := by
  intro x hx y hy
  obtain ⟨p, hp, rfl⟩ := List.mem_map.mp hy
  exact turned_ok hx
theorem nb_code {m k n : Nat} : ∀ x, OkRow n x → nbX (fsOf m k n) (code x) = (nbR m k x).map code := by
  intro x hx
  unfold nbX fsOf nbR
  rw [List.map_map, List.map_map, hx.len]
  apply List.map_congr_left
  intro p hp
  exact (code_turned hx (turns_rising hp)).symm
theorem inj_code {n : Nat} : ∀ x y, OkRow n x → OkRow n y → code x = code y → x = y := fun _ _ hx hy => code_inj hx hy
theorem dist_code {m k n : Nat} {s x : List Nat} (hs : OkRow n s) (hx : OkRow n x) {d : Nat} : Dist (nbX (fsOf m k n)) (code s) (code x) d ↔ Dist (nbR m k) s x d :=
  iso_dist nb_ok nb_code inj_code hs hx
theorem reach_ok {m k n : Nat} {s : List Nat} (hs : OkRow n s) : ∀ {j : Nat} {x : List Nat}, reach (nbR m k) s j x → OkRow n x := by
  intro j
  induction j with
  | zero => intro x h; cases h; exact hs
  | succ j ih => rintro x ⟨y, hy, hx⟩; exact nb_ok y (ih hy) x hx
/-! The specification's answers. -/
theorem far_eq (z : Coins) : far z = farX z.row.length (fsOf z.mode z.k z.row.length) (code z.row) := rfl
section
variable {z : Coins} {n : Nat} (hz : OkRow n z.row)
include hz
theorem far_is {t : List Nat} (ht : OkRow n t) (d : Nat) : (far z).getD (code t) 0 = d + 1 ↔ Dist (nbR z.mode z.k) z.row t d := by
  rw [far_eq, hz.len, (farX_is fsOf_lt hz.lt).2 _ d ht.lt, dist_code hz ht]
theorem planTo_some {t : List Nat} (ht : OkRow n t) {d : Nat} (h : Dist (nbR z.mode z.k) z.row t d) : ∃ p, planTo z t = some p ∧ firstPlan (nbR z.mode z.k) t d z.row = some p ∧ p.length = d := by
  have hd : Dist (nbX (fsOf z.mode z.k n)) (code z.row) (code t) d := (dist_code hz ht).mpr h
  have hd' := hd.sym _ symX
  have e1 : (farX n (fsOf z.mode z.k n) (code t)).getD (code z.row) 0 = d + 1 := ((farX_is fsOf_lt ht.lt).2 _ d hz.lt).mpr hd'
  have e2 := planFrom_is (fsOf_lt (m := z.mode) (k := z.k)) ht.lt d (code z.row) hz.lt hd
  have e3 : planTo z t = some (planFrom (fsOf z.mode z.k n) (farX n (fsOf z.mode z.k n) (code t)) d (code z.row)) := by
    unfold planTo
    have e0 : far { z with row := t } = farX n (fsOf z.mode z.k n) (code t) := by rw [far_eq]; show farX t.length _ _ = _; rw [ht.len]
    simp only [e0, hz.len, e1]
    rw [if_neg (by omega)]
    rfl
  rw [iso_plan nb_ok nb_code inj_code ht hz] at e2
  exact ⟨_, e3, e2, firstPlan_len _ e2⟩
theorem planTo_none {t : List Nat} (ht : OkRow n t) (h : ∀ d, ¬ Dist (nbR z.mode z.k) z.row t d) : planTo z t = none := by
  have e0 : far { z with row := t } = farX n (fsOf z.mode z.k n) (code t) := by rw [far_eq]; show farX t.length _ _ = _; rw [ht.len]
  have e1 : (farX n (fsOf z.mode z.k n) (code t)).getD (code z.row) 0 = 0 := (farX_zero fsOf_lt ht.lt hz.lt).mpr fun j hj => h j ((dist_code hz ht).mp (hj.sym _ symX))
  unfold planTo
  simp only [e0, e1]
  rfl
end
end Cm
/-! How many plans; how many rows; the farthest. -/
namespace Cm
open Uw80
theorem sum_map_add {α : Type} (g h : α → Nat) : ∀ (l : List α), (l.map fun c => g c + h c).sum = (l.map g).sum + (l.map h).sum := by
  intro l
  induction l with
  | nil => rfl
  | cons x r ih => simp only [List.map_cons, List.sum_cons, ih]; omega
theorem sum_map_zero {α : Type} : ∀ (l : List α), (l.map fun _ => 0).sum = 0 := by
  intro l
  induction l with
  | nil => rfl
  | cons x r ih => simp only [List.map_cons, List.sum_cons, ih]
theorem sum_swap {α β : Type} (g : α → β → Nat) (l : List α) : ∀ (fs : List β), (l.map fun c => (fs.map (g c)).sum).sum = (fs.map fun f => (l.map fun c => g c f).sum).sum := by
  intro fs
  induction fs with
  | nil => simp only [List.map_nil, List.sum_nil]; exact sum_map_zero l
  | cons f r ih => simp only [List.map_cons, List.sum_cons]; rw [sum_map_add, ih]
theorem sum_one (a : Nat → Nat) (x : Nat) : ∀ (N : Nat), ((List.range N).map fun c => if c = x then a c else 0).sum = if x < N then a x else 0 := by
  intro N
  induction N with
  | zero => simp
  | succ N ih =>
    rw [List.range_succ, List.map_append, List.sum_append, ih]
    simp only [List.map_cons, List.map_nil, List.sum_cons, List.sum_nil]
    by_cases h : N = x
    · subst h; simp
    · rw [if_neg h]
      by_cases q : x < N
      · rw [if_pos q, if_pos (by omega)]; rfl
      · rw [if_neg q, if_neg (by omega)]; rfl
theorem xor_eq_iff (c f e : Nat) : c ^^^ f = e ↔ c = e ^^^ f := by
  constructor
  · rintro rfl; exact (xor_xor c f).symm
  · rintro rfl; exact xor_xor e f
theorem spread_in {n c v : Nat} (hc : c < 2 ^ n) : ∀ (fs : List Nat) (b : Array Nat), (∀ f ∈ fs, f < 2 ^ n) → b.size = 2 ^ n →
    (fs.foldl (fun b f => b.set! (c ^^^ f) (b.getD (c ^^^ f) 0 + v)) b).size = 2 ^ n ∧
    ∀ e, e < 2 ^ n → (fs.foldl (fun b f => b.set! (c ^^^ f) (b.getD (c ^^^ f) 0 + v)) b).getD e 0 = b.getD e 0 + (fs.map fun f => if c = e ^^^ f then v else 0).sum := by
  intro fs
  induction fs with
  | nil => intro b _ hb; exact ⟨hb, fun e he => by simp⟩
  | cons f r ih =>
    intro b hf hb
    rw [List.foldl_cons]
    obtain ⟨h1, h2⟩ := ih (b.set! (c ^^^ f) (b.getD (c ^^^ f) 0 + v)) (fun z hz => hf z (by simp [hz])) (by rw [size_set]; exact hb)
    refine ⟨h1, fun e he => ?_⟩
    rw [h2 e he, getD_set, hb, List.map_cons, List.sum_cons]
    by_cases q : c ^^^ f = e
    · rw [if_pos ⟨q, he⟩, if_pos ((xor_eq_iff _ _ _).mp q), q]; omega
    · rw [if_neg (fun z => q z.1), if_neg (fun z => q ((xor_eq_iff _ _ _).mpr z))]; omega
theorem spread_out {n : Nat} {fs : List Nat} (hf : ∀ f ∈ fs, f < 2 ^ n) (a : Array Nat) : ∀ (l : List Nat) (b : Array Nat), (∀ c ∈ l, c < 2 ^ n) → b.size = 2 ^ n →
    (l.foldl (fun b c => if a.getD c 0 = 0 then b else fs.foldl (fun b f => b.set! (c ^^^ f) (b.getD (c ^^^ f) 0 + a.getD c 0)) b) b).size = 2 ^ n ∧
    ∀ e, e < 2 ^ n → (l.foldl (fun b c => if a.getD c 0 = 0 then b else fs.foldl (fun b f => b.set! (c ^^^ f) (b.getD (c ^^^ f) 0 + a.getD c 0)) b) b).getD e 0 =
      b.getD e 0 + (l.map fun c => (fs.map fun f => if c = e ^^^ f then a.getD c 0 else 0).sum).sum := by
  intro l
  induction l with
  | nil => intro b _ hb; exact ⟨hb, fun e he => by simp⟩
  | cons c r ih =>
    intro b hl hb
    rw [List.foldl_cons]
    by_cases q : a.getD c 0 = 0
    · rw [if_pos q]
      obtain ⟨h1, h2⟩ := ih b (fun z hz => hl z (by simp [hz])) hb
      refine ⟨h1, fun e he => ?_⟩
      rw [h2 e he, List.map_cons, List.sum_cons, q]
      have : (fs.map fun f => if c = e ^^^ f then 0 else 0).sum = 0 := by
        have : (fs.map fun f => if c = e ^^^ f then 0 else 0) = fs.map fun _ => 0 := List.map_congr_left fun f _ => by split <;> rfl
        rw [this]; exact sum_map_zero fs
      omega
    · rw [if_neg q]
      obtain ⟨s1, s2⟩ := spread_in (v := a.getD c 0) (hl c (by simp)) fs b hf hb
      obtain ⟨h1, h2⟩ := ih _ (fun z hz => hl z (by simp [hz])) s1
      refine ⟨h1, fun e he => ?_⟩
      rw [h2 e he, s2 e he, List.map_cons, List.sum_cons]
      omega
theorem spread_is {n : Nat} {fs : List Nat} (hf : ∀ f ∈ fs, f < 2 ^ n) (a : Array Nat) : (spread n fs a).size = 2 ^ n ∧ ∀ e, e < 2 ^ n → (spread n fs a).getD e 0 = (fs.map fun f => a.getD (e ^^^ f) 0).sum := by
  obtain ⟨h1, h2⟩ := spread_out hf a (List.range (2 ^ n)) (Array.replicate (2 ^ n) 0) (fun c hc => List.mem_range.mp hc) (by simp)
  refine ⟨h1, fun e he => ?_⟩
  have := h2 e he
  have e0 : (Array.replicate (2 ^ n) 0).getD e 0 = 0 := by simp [Array.getD_eq_getD_getElem?, he]
  rw [e0, sum_swap, Nat.zero_add] at this
  refine Eq.trans this ?_
  congr 1
  apply List.map_congr_left
  intro f hff
  have hlt : e ^^^ f < 2 ^ n := Nat.xor_lt_two_pow he (hf f hff)
  rw [sum_one (fun c => a.getD c 0), if_pos hlt]
/-- walks of d steps back from e, weighed by h where they end -/
def walks (fs : List Nat) (h : Nat → Nat) : Nat → Nat → Nat
  | 0, e => h e
  | d + 1, e => (fs.map fun f => walks fs h d (e ^^^ f)).sum
theorem walks_shift {n : Nat} {fs : List Nat} (hf : ∀ f ∈ fs, f < 2 ^ n) {h h' : Nat → Nat} (hh : ∀ e, e < 2 ^ n → h' e = (fs.map fun f => h (e ^^^ f)).sum) : ∀ d e, e < 2 ^ n → walks fs h' d e = walks fs h (d + 1) e := by
  intro d
  induction d with
  | zero => intro e he; exact hh e he
  | succ d ih =>
    intro e he
    show (fs.map fun f => walks fs h' d (e ^^^ f)).sum = (fs.map fun f => walks fs h (d + 1) (e ^^^ f)).sum
    congr 1
    exact List.map_congr_left fun f hff => ih _ (Nat.xor_lt_two_pow he (hf f hff))
theorem spreads_is {n : Nat} {fs : List Nat} (hf : ∀ f ∈ fs, f < 2 ^ n) : ∀ (d : Nat) (a : Array Nat), ∀ e, e < 2 ^ n → (spreads n fs d a).getD e 0 = walks fs (fun e => a.getD e 0) d e := by
  intro d
  induction d with
  | zero => intro a e _; rfl
  | succ d ih =>
    intro a e he
    show (spreads n fs d (spread n fs a)).getD e 0 = _
    rw [ih _ e he]
    exact walks_shift hf (fun e he => (spread_is hf a).2 e he) d e he
theorem walks_cnt {fs : List Nat} {s g : Nat} : ∀ (d e : Nat), walks fs (fun e => if e = s then 1 else 0) d e = cnt (nbX fs) (s ^^^ g) d (e ^^^ g) := by
  intro d
  induction d with
  | zero =>
    intro e
    show (if e = s then 1 else 0) = if e ^^^ g = s ^^^ g then 1 else 0
    by_cases h : e = s
    · subst h; simp
    · rw [if_neg h, if_neg]
      intro q
      apply h
      have := congrArg (· ^^^ g) q
      simpa [xor_xor] using this
  | succ d ih =>
    intro e
    show (fs.map fun f => walks fs _ d (e ^^^ f)).sum = ((nbX fs (e ^^^ g)).map (cnt (nbX fs) (s ^^^ g) d)).sum
    unfold nbX
    rw [List.map_map]
    congr 1
    apply List.map_congr_left
    intro f _
    rw [ih]
    show _ = cnt (nbX fs) (s ^^^ g) d ((e ^^^ g) ^^^ f)
    congr 1
    rw [Nat.xor_assoc, Nat.xor_comm f g, ← Nat.xor_assoc]
section
variable {z : Coins} {n : Nat} (hz : OkRow n z.row)
include hz
theorem countPlans_is {t : List Nat} (ht : OkRow n t) (d : Nat) : countPlans z t d = cnt (nbR z.mode z.k) t d z.row := by
  unfold countPlans
  simp only [hz.len]
  show (spreads n (fsOf z.mode z.k n) d _).getD (code t) 0 = _
  rw [spreads_is fsOf_lt d _ _ ht.lt]
  have e : (fun e => ((Array.replicate (2 ^ n) 0).set! (code z.row) 1).getD e 0) = fun e => if e = code z.row then 1 else 0 := by
    funext e
    rw [getD_set]
    by_cases h : e = code z.row
    · subst h; rw [if_pos ⟨rfl, by simpa using hz.lt⟩, if_pos rfl]
    · rw [if_neg (fun q => h q.1.symm), if_neg h]
      by_cases q : e < 2 ^ n <;> simp [Array.getD_eq_getD_getElem?, q]
  rw [e, walks_cnt (g := code z.row ^^^ code t) d (code t)]
  have e1 : code z.row ^^^ (code z.row ^^^ code t) = code t := by rw [← Nat.xor_assoc, Nat.xor_self, Nat.zero_xor]
  have e2 : code t ^^^ (code z.row ^^^ code t) = code z.row := by rw [Nat.xor_comm (code z.row), ← Nat.xor_assoc, Nat.xor_self, Nat.zero_xor]
  rw [e1, e2, iso_cnt nb_ok nb_code inj_code ht hz]
/-- the codes that a look at the array takes are those of a list of rows without repeats -/
theorem filter_len {P : Nat → Bool} {L : List (List Nat)} (nd : L.Nodup) (h : ∀ r, r ∈ L ↔ OkRow n r ∧ P (code r) = true) : ((List.range (2 ^ n)).filter P).length = L.length ∧ ∀ c, c ∈ (List.range (2 ^ n)).filter P ↔ c ∈ L.map code := by
  have mem : ∀ c, c ∈ (List.range (2 ^ n)).filter P ↔ c ∈ L.map code := by
    intro c
    rw [List.mem_filter, List.mem_range, List.mem_map]
    constructor
    · rintro ⟨hc, hp⟩
      exact ⟨rowOf n c, (h _).mpr ⟨rowOf_ok n c, by rw [code_rowOf hc]; exact hp⟩, code_rowOf hc⟩
    · rintro ⟨r, hr, rfl⟩
      have := (h r).mp hr
      exact ⟨this.1.lt, this.2⟩
  refine ⟨?_, mem⟩
  have n1 : ((List.range (2 ^ n)).filter P).Nodup := List.Nodup.sublist List.filter_sublist List.nodup_range
  have n2 : (L.map code).Nodup := by
    rw [List.Nodup, List.pairwise_map]
    refine List.Pairwise.imp_of_mem ?_ nd
    intro a b ha hb hab e
    exact hab (code_inj ((h a).mp ha).1 ((h b).mp hb).1 e)
  have p : ((List.range (2 ^ n)).filter P).Perm (L.map code) := (List.perm_ext_iff_of_nodup n1 n2).mpr mem
  rw [p.length_eq, List.length_map]
theorem far_zero {t : List Nat} (ht : OkRow n t) : (far z).getD (code t) 0 = 0 ↔ ∀ d, ¬ Dist (nbR z.mode z.k) z.row t d := by
  rw [far_eq, hz.len, farX_zero fsOf_lt hz.lt ht.lt]
  constructor
  · exact fun h d hd => h d ((dist_code hz ht).mpr hd)
  · exact fun h d hd => h d ((dist_code hz ht).mp hd)
theorem rows_is {L : List (List Nat)} (nd : L.Nodup) (h : ∀ r, r ∈ L ↔ ∃ d, Dist (nbR z.mode z.k) z.row r d) : (reached z).length = L.length := by
  unfold reached
  rw [hz.len]
  refine (filter_len hz nd fun r => ?_).1
  rw [h]
  constructor
  · rintro ⟨d, hd⟩
    have ok := reach_ok hz hd.1
    refine ⟨ok, ?_⟩
    rw [(far_is hz ok d).mpr hd]
    simp
  · rintro ⟨ok, q⟩
    cases e : (far z).getD (code r) 0 with
    | zero => rw [e] at q; simp at q
    | succ d => exact ⟨d, (far_is hz ok d).mp e⟩
end
theorem foldl_max : ∀ (l : List Nat) (a : Nat), a ≤ l.foldl max a ∧ (∀ x ∈ l, x ≤ l.foldl max a) ∧ (l.foldl max a = a ∨ l.foldl max a ∈ l) := by
  intro l
  induction l with
  | nil => intro a; simp
  | cons x r ih =>
    intro a
    rw [List.foldl_cons]
    obtain ⟨h1, h2, h3⟩ := ih (max a x)
    refine ⟨by omega, ?_, ?_⟩
    · intro y hy
      rcases List.mem_cons.mp hy with rfl | hy
      · omega
      · exact h2 y hy
    · rcases h3 with h3 | h3
      · rw [h3]
        by_cases q : a ≤ x
        · right; rw [Nat.max_eq_right q]; simp
        · left; exact Nat.max_eq_left (by omega)
      · right; simp [h3]
section
variable {z : Coins} {n : Nat} (hz : OkRow n z.row)
include hz
theorem far_max {D : Nat} {b : List Nat} (hb : Dist (nbR z.mode z.k) z.row b D) (top : ∀ r e, Dist (nbR z.mode z.k) z.row r e → e ≤ D) : (far z).foldl max 1 = D + 1 := by
  rw [← Array.foldl_toList]
  obtain ⟨h1, h2, h3⟩ := foldl_max (far z).toList 1
  have hsz : (far z).size = 2 ^ n := by rw [far_eq, hz.len]; exact (farX_is fsOf_lt hz.lt).1
  have okb := reach_ok hz hb.1
  have eb := (far_is hz okb D).mpr hb
  have mem_of : ∀ v, v ∈ (far z).toList → ∃ r, OkRow n r ∧ (far z).getD (code r) 0 = v := by
    intro v hv
    obtain ⟨i, hi, rfl⟩ := List.mem_iff_getElem.mp hv
    have hi' : i < (far z).size := by simpa using hi
    have hi2 : i < 2 ^ n := hsz ▸ hi'
    refine ⟨rowOf n i, rowOf_ok n i, ?_⟩
    rw [code_rowOf hi2]
    simp [Array.getD_eq_getD_getElem?, hi']
  have ge : D + 1 ≤ (far z).toList.foldl max 1 := by
    apply h2
    have hlt : code b < (far z).size := hsz ▸ okb.lt
    rw [← eb]
    simp [Array.getD_eq_getD_getElem?, hlt]
  have le : (far z).toList.foldl max 1 ≤ D + 1 := by
    rcases h3 with h3 | h3
    · omega
    · obtain ⟨r, hr, e⟩ := mem_of _ h3
      cases q : (far z).toList.foldl max 1 with
      | zero => omega
      | succ j =>
        rw [q] at e
        have := top r j ((far_is hz hr j).mp e)
        omega
  omega
theorem farthest_is {D : Nat} {L : List (List Nat)} (nd : L.Nodup) (h : ∀ r, r ∈ L ↔ Dist (nbR z.mode z.k) z.row r D) (top : ∀ r, ¬ Dist (nbR z.mode z.k) z.row r (D + 1)) {b : List Nat} (hb : b ∈ L) (hmin : ∀ r ∈ L, code b ≤ code r) :
    (step z .farthest).2 = Uw80.ints ([D, L.length] ++ b) := by
  have top' : ∀ r e, Dist (nbR z.mode z.k) z.row r e → e ≤ D := by
    intro r e he
    apply Classical.byContradiction
    intro q
    exact Dist.none_from _ top e (by omega) r he
  have em := far_max hz ((h b).mp hb) top'
  have ok : ∀ r, r ∈ L ↔ OkRow n r ∧ ((far z).getD (code r) 0 == D + 1) = true := by
    intro r
    rw [h]
    constructor
    · intro hd
      have := reach_ok hz hd.1
      exact ⟨this, beq_iff_eq.mpr ((far_is hz this D).mpr hd)⟩
    · rintro ⟨q, e⟩
      exact (far_is hz q D).mp (beq_iff_eq.mp e)
  obtain ⟨len, mem⟩ := filter_len (P := fun c => (far z).getD c 0 == D + 1) hz nd ok
  have okb := ((ok b).mp hb).1
  have head : ((List.range (2 ^ n)).filter fun c => (far z).getD c 0 == D + 1).headD 0 = code b := by
    have hm : code b ∈ (List.range (2 ^ n)).filter fun c => (far z).getD c 0 == D + 1 := (mem _).mpr (List.mem_map.mpr ⟨b, hb, rfl⟩)
    have srt : ((List.range (2 ^ n)).filter fun c => (far z).getD c 0 == D + 1).Pairwise (· < ·) := List.pairwise_lt_range.sublist List.filter_sublist
    cases q : (List.range (2 ^ n)).filter fun c => (far z).getD c 0 == D + 1 with
    | nil => rw [q] at hm; simp at hm
    | cons x r =>
      rw [q] at hm srt
      show x = code b
      rcases List.mem_cons.mp hm with e | e
      · exact e.symm
      · have lt := (List.pairwise_cons.mp srt).1 _ e
        have hx : x ∈ L.map code := (mem x).mp (by rw [q]; simp)
        obtain ⟨y, hy, rfl⟩ := List.mem_map.mp hx
        have := hmin y hy
        omega
  show Uw80.ints ([(far z).foldl max 1 - 1, ((List.range (2 ^ z.row.length)).filter fun c => (far z).getD c 0 == (far z).foldl max 1).length] ++ rowOf z.row.length (((List.range (2 ^ z.row.length)).filter fun c => (far z).getD c 0 == (far z).foldl max 1).headD 0)) = _
  rw [em, hz.len, len, head, rowOf_code okb]
  rfl
end
end Cm
/-! The numbering: sets of places grown one place at a time; places side by side. -/
namespace Cm
open Uw80
def rng (a n : Nat) : List Nat := List.range' a (n - a)
theorem rng_cons {a n : Nat} (h : a < n) : rng a n = a :: rng (a + 1) n := by
  unfold rng
  have : n - a = (n - (a + 1)) + 1 := by omega
  rw [this, List.range'_succ]
theorem rng_nil {a n : Nat} (h : n ≤ a) : rng a n = [] := by
  unfold rng
  have : n - a = 0 := by omega
  rw [this]; rfl
theorem rng_range (n : Nat) : rng 0 n = List.range n := by
  unfold rng
  rw [List.range_eq_range']; rfl
/-- from which place on a set goes on, if an empty one does from lo -/
def from_ (lo : Nat) (s : List Nat) : Nat := match s.getLast? with
  | none => lo
  | some x => x + 1
/-- a set with each place that lies behind its last -/
def ext (lo n : Nat) (s : List Nat) : List (List Nat) := (rng (from_ lo s) n).map fun p => s ++ [p]
theorem ext_nil (lo n : Nat) : ext lo n [] = (rng lo n).map fun p => [p] := rfl
theorem from_cons {lo a : Nat} {s : List Nat} : from_ lo (a :: s) = from_ (a + 1) s := by
  unfold from_
  cases s with
  | nil => rfl
  | cons b r => rw [List.getLast?_cons_cons]; simp [List.getLast?_cons]
theorem ext_cons {lo n a : Nat} {s : List Nat} : ext lo n (a :: s) = (ext (a + 1) n s).map fun t => a :: t := by
  unfold ext
  rw [from_cons, List.map_map]
  rfl
theorem ext_any {lo lo' n : Nat} {s : List Nat} (h : s ≠ []) : ext lo n s = ext lo' n s := by
  cases s with
  | nil => exact absurd rfl h
  | cons a r => rw [ext_cons, ext_cons]
theorem choices_one : ∀ (l : List Nat), choices 1 l = l.map fun p => [p] := by
  intro l
  induction l with
  | nil => rfl
  | cons x r ih =>
    show ((choices 0 r).map fun s => x :: s) ++ choices 1 r = _
    rw [ih]
    have : choices 0 r = [[]] := by cases r <;> rfl
    rw [this]
    rfl
theorem choices_ne {k : Nat} {l p : List Nat} (h : p ∈ choices (k + 1) l) : p ≠ [] := by
  intro e
  subst e
  have := (choices_sub h).2
  simp at this
theorem choices_zero (l : List Nat) : choices 0 l = [[]] := by cases l <;> rfl
theorem flatMap_congr' {α β : Type} {f g : α → List β} : ∀ {l : List α}, (∀ a ∈ l, f a = g a) → l.flatMap f = l.flatMap g := by
  intro l
  induction l with
  | nil => intro _; rfl
  | cons a r ih =>
    intro h
    rw [List.flatMap_cons, List.flatMap_cons, h a (by simp), ih fun b hb => h b (by simp [hb])]
theorem choices_grow (n : Nat) : ∀ (m a : Nat), n - a = m → ∀ j, choices (j + 1) (rng a n) = (choices j (rng a n)).flatMap (ext a n) := by
  intro m
  induction m with
  | zero =>
    intro a h j
    rw [rng_nil (by omega)]
    cases j with
    | zero => show [] = [[]].flatMap _; simp [ext_nil, rng_nil (show n ≤ a by omega)]
    | succ j => rfl
  | succ m ih =>
    intro a h j
    have IH := ih (a + 1) (by omega)
    cases j with
    | zero => rw [choices_zero, choices_one]; simp [ext_nil]
    | succ j =>
      rw [rng_cons (by omega)]
      show ((choices (j + 1) (rng (a + 1) n)).map fun s => a :: s) ++ choices (j + 2) (rng (a + 1) n) = (((choices j (rng (a + 1) n)).map fun s => a :: s) ++ choices (j + 1) (rng (a + 1) n)).flatMap (ext a n)
      rw [List.flatMap_append]
      congr 1
      · rw [IH j, List.map_flatMap, List.flatMap_map]
        congr 1
        funext s
        exact ext_cons.symm
      · rw [IH (j + 1)]
        apply flatMap_congr'
        intro s hs
        exact ext_any (choices_ne hs)
/-- the sets of k places, grown k times -/
def setsN (n : Nat) : Nat → List (List Nat)
  | 0 => [[]]
  | k + 1 => (setsN n k).flatMap (ext 0 n)
theorem setsN_is (n : Nat) : ∀ k, setsN n k = choices k (List.range n) := by
  intro k
  induction k with
  | zero => exact (choices_zero _).symm
  | succ k ih =>
    show (setsN n k).flatMap (ext 0 n) = _
    rw [ih, ← rng_range, choices_grow n n 0 (by omega) k]
/-! side by side -/
theorem sorted_uniq : ∀ {l₁ l₂ : List Nat}, l₁.Pairwise (· < ·) → l₂.Pairwise (· < ·) → (∀ x, x ∈ l₁ ↔ x ∈ l₂) → l₁ = l₂ := by
  intro l₁
  induction l₁ with
  | nil =>
    intro l₂ _ _ h
    cases l₂ with
    | nil => rfl
    | cons b r => exact absurd ((h b).mpr (by simp)) (by simp)
  | cons a l ih =>
    intro l₂ h1 h2 h
    cases l₂ with
    | nil => exact absurd ((h a).mp (by simp)) (by simp)
    | cons b r =>
      obtain ⟨p1, p2⟩ := List.pairwise_cons.mp h1
      obtain ⟨q1, q2⟩ := List.pairwise_cons.mp h2
      have e : a = b := by
        have ha := (h a).mp (by simp)
        have hb := (h b).mpr (by simp)
        rcases List.mem_cons.mp ha with z | z
        · exact z
        · rcases List.mem_cons.mp hb with y | y
          · exact y.symm
          · have := p1 b y
            have := q1 a z
            omega
      subst e
      congr 1
      refine ih p2 q2 fun x => ?_
      constructor
      · intro hx
        rcases List.mem_cons.mp ((h x).mp (by simp [hx])) with z | z
        · have := p1 x hx; omega
        · exact z
      · intro hx
        rcases List.mem_cons.mp ((h x).mpr (by simp [hx])) with z | z
        · have := q1 x hx; omega
        · exact z
theorem mod_wrap {n a : Nat} (h : a < 2 * n) : a % n = if a < n then a else a - n := by
  by_cases q : a < n
  · rw [if_pos q, Nat.mod_eq_of_lt q]
  · rw [if_neg q, Nat.mod_eq_sub_mod (by omega), Nat.mod_eq_of_lt (by omega)]
/-- by mode 2: whatever is rising and holds just the k places from i on in the ring is the turn i -/
theorem ring_is {n k i : Nat} (hi : i < n) (hk : k ≤ n) {l : List Nat} (up : l.Pairwise (· < ·)) (h : ∀ x, x ∈ l ↔ ∃ j, j < k ∧ x = (i + j) % n) :
    l = (List.range n).filter fun p => decide ((p + n - i) % n < k) := by
  refine sorted_uniq up (List.pairwise_lt_range.sublist List.filter_sublist) fun x => ?_
  rw [h, List.mem_filter, List.mem_range, decide_eq_true_iff]
  constructor
  · rintro ⟨j, hj, rfl⟩
    refine ⟨Nat.mod_lt _ (by omega), ?_⟩
    rw [mod_wrap (show i + j < 2 * n by omega)]
    split
    · have : i + j + n - i = j + n := by omega
      rw [this, Nat.add_mod_right, Nat.mod_eq_of_lt (by omega)]
      exact hj
    · have : i + j - n + n - i = j := by omega
      rw [this, Nat.mod_eq_of_lt (by omega)]
      exact hj
  · rintro ⟨hx, hq⟩
    refine ⟨(x + n - i) % n, hq, ?_⟩
    rw [mod_wrap (show x + n - i < 2 * n by omega)]
    split
    · rw [mod_wrap (by omega)]
      split <;> omega
    · rw [mod_wrap (by omega)]
      split <;> omega
theorem turns0 (k n : Nat) : turns 0 k n = choices k (List.range n) := rfl
theorem turns1 (k n : Nat) : turns 1 k n = (List.range (n + 1 - k)).map fun i => (List.range k).map fun j => i + j := rfl
theorem turns2 (k n : Nat) : turns 2 k n = (List.range n).map fun i => (List.range n).filter fun p => decide ((p + n - i) % n < k) := rfl
end Cm
/-! The calls out of one list. -/
namespace Cm
open Uw80
/-- a call as the list holds it -/
def flat : Uw80.Call → List Int
  | .coins m k l => [0, (m : Int), (k : Int), (l.length : Int)] ++ Uw80.ints l
  | .turn i => [1, (i : Int)]
  | .places i => [2, (i : Int)]
  | .shows => [3]
  | .to l => [4, (l.length : Int)] ++ Uw80.ints l
  | .plans l => [5, (l.length : Int)] ++ Uw80.ints l
  | .rows => [6]
  | .farthest => [7]
def big (n : Nat) : Prop := n ≤ 4294967295
/-- the bounds of a call's numbers -/
def Bnd : Uw80.Call → Prop
  | .coins m k l => big m ∧ big k ∧ l.length ≤ 30 ∧ ∀ c ∈ l, big c
  | .turn i => big i
  | .places i => big i
  | .to l => l.length ≤ 30 ∧ ∀ c ∈ l, big c
  | .plans l => l.length ≤ 30 ∧ ∀ c ∈ l, big c
  | _ => True
/-- what is told of calls, from a state on -/
def toldF (s : St) : List Uw80.Call → List Int
  | [] => []
  | c :: r => (((Uw80.step s c).2.length : Int) :: (Uw80.step s c).2) ++ toldF (Uw80.step s c).1 r
/-- the state behind calls -/
def after (s : St) : List Uw80.Call → St
  | [] => s
  | c :: r => after (Uw80.step s c).1 r
theorem nat_of {z : Int} (h : PyInside.within 0 4294967295 z = true) : ∃ n : Nat, z = (n : Int) ∧ big n := by
  unfold PyInside.within at h
  simp at h
  exact ⟨z.toNat, by omega, by unfold big; omega⟩
theorem nats_of : ∀ {r : List Int}, r.all (PyInside.within 0 4294967295) = true → ∃ l : List Nat, r = Uw80.ints l ∧ ∀ c ∈ l, big c := by
  intro r
  induction r with
  | nil => intro _; exact ⟨[], rfl, by simp⟩
  | cons z r ih =>
    intro h
    rw [List.all_cons, Bool.and_eq_true] at h
    obtain ⟨n, rfl, hn⟩ := nat_of h.1
    obtain ⟨l, rfl, hl⟩ := ih h.2
    exact ⟨n :: l, rfl, fun c hc => (List.mem_cons.mp hc).elim (fun e => e ▸ hn) (hl c)⟩
theorem ints_len (l : List Nat) : (Uw80.ints l).length = l.length := by simp [Uw80.ints]
theorem ints_append (a b : List Nat) : Uw80.ints (a ++ b) = Uw80.ints a ++ Uw80.ints b := by simp [Uw80.ints]
theorem ints_toNat : ∀ (l : List Nat), (Uw80.ints l).map Int.toNat = l
  | [] => rfl
  | a :: r => by
    show ((a : Int).toNat) :: (Uw80.ints r).map Int.toNat = a :: r
    rw [ints_toNat r, Int.toNat_natCast]
theorem ints_nat {l : List Nat} (h : ∀ c ∈ l, big c) : (Uw80.ints l).all Uw80Neutral.nat = true := by
  rw [List.all_eq_true]
  intro x hx
  simp [Uw80.ints] at hx
  obtain ⟨c, hc, rfl⟩ := hx
  have := h c hc
  unfold big at this
  simp [Uw80Neutral.nat]
  omega
theorem big_nat {n : Nat} (h : big n) : Uw80Neutral.nat (n : Int) = true := by
  unfold big at h
  simp [Uw80Neutral.nat]
  omega
theorem row_of {r x t : List Int} (h : PyFlat.row r = some (x, t)) : r = (x.length : Int) :: (x ++ t) := by
  cases r with
  | nil => simp [PyFlat.row] at h
  | cons n r =>
    have h : (if 0 ≤ n ∧ n.toNat ≤ r.length then some (r.take n.toNat, r.drop n.toNat) else none) = some (x, t) := h
    by_cases q : 0 ≤ n ∧ n.toNat ≤ r.length
    · rw [if_pos q] at h
      have h := Option.some.inj h
      obtain ⟨rfl, rfl⟩ := Prod.mk.inj h
      rw [List.take_append_drop, List.length_take]
      congr 1
      omega
    · rw [if_neg q] at h
      cases h
theorem rows0 {r t : List Int} {xs : List (List Int)} (h : PyFlat.rows 0 r = some (xs, t)) : xs = [] ∧ t = r := by
  have h : some ([], r) = some (xs, t) := h
  obtain ⟨rfl, rfl⟩ := Prod.mk.inj (Option.some.inj h)
  exact ⟨rfl, rfl⟩
theorem rows1 {r t : List Int} {xs : List (List Int)} (h : PyFlat.rows 1 r = some (xs, t)) : ∃ x, xs = [x] ∧ r = (x.length : Int) :: (x ++ t) := by
  unfold PyFlat.rows at h
  cases e : PyFlat.row r with
  | none => rw [e] at h; simp at h
  | some p =>
    obtain ⟨x, s⟩ := p
    rw [e] at h
    simp [PyFlat.rows] at h
    obtain ⟨h1, rfl⟩ := h
    exact ⟨x, h1.symm, row_of e⟩
theorem call_eq {p : Int} {r : List Int} {n k : Nat} (e : PyUw80.shape p = some (n, k)) : PyFlat.call PyUw80.shape (p :: r) = if r.length < n then none else match PyFlat.rows k (r.drop n) with
      | none => none
      | some (xs, t) => some ((p :: r.take n) :: xs, t) := by
  show (match PyUw80.shape p with
    | none => none
    | some (n, k) => if r.length < n then none else match PyFlat.rows k (r.drop n) with
      | none => none
      | some (xs, t) => some ((p :: r.take n) :: xs, t)) = _
  rw [e]
theorem call_no {p : Int} {r : List Int} (e : PyUw80.shape p = none) : PyFlat.call PyUw80.shape (p :: r) = none := by
  show (match PyUw80.shape p with
    | none => none
    | some (n, k) => if r.length < n then none else match PyFlat.rows k (r.drop n) with
      | none => none
      | some (xs, t) => some ((p :: r.take n) :: xs, t)) = _
  rw [e]
theorem calls_eq {f : Nat} {p : Int} {r : List Int} {c : List (List Int)} {t : List Int} (e : PyFlat.call PyUw80.shape (p :: r) = some (c, t)) : PyFlat.calls PyUw80.shape (f + 1) (p :: r) = match PyFlat.calls PyUw80.shape f t with
      | none => none
      | some cs => some (c :: cs) := by
  show (match PyFlat.call PyUw80.shape (p :: r) with
    | none => none
    | some (c, t) => match PyFlat.calls PyUw80.shape f t with
      | none => none
      | some cs => some (c :: cs)) = _
  rw [e]
theorem calls_no {f : Nat} {p : Int} {r : List Int} (e : PyFlat.call PyUw80.shape (p :: r) = none) : PyFlat.calls PyUw80.shape (f + 1) (p :: r) = none := by
  show (match PyFlat.call PyUw80.shape (p :: r) with
    | none => none
    | some (c, t) => match PyFlat.calls PyUw80.shape f t with
      | none => none
      | some cs => some (c :: cs)) = _
  rw [e]
/-- one call: its form, and what stands behind it -/
theorem call_of {r t : List Int} {c : List (List Int)} (h : PyFlat.call PyUw80.shape r = some (c, t)) (hb : PyInside.call PyUw80.bound c = true) :
    ∃ x : Uw80.Call, r = flat x ++ t ∧ Bnd x ∧ Uw80Neutral.callOf ((PyUw80.whole c).headD []) = some x := by
  cases r with
  | nil => simp [PyFlat.call] at h
  | cons p r =>
    have hp : p = 0 ∨ p = 1 ∨ p = 2 ∨ p = 3 ∨ p = 4 ∨ p = 5 ∨ p = 6 ∨ p = 7 := by
      apply Classical.byContradiction
      intro q
      have : PyUw80.shape p = none := by
        unfold PyUw80.shape
        repeat rw [if_neg (by omega)]
      rw [call_no this] at h
      cases h
    rcases hp with rfl | rfl | rfl | rfl | rfl | rfl | rfl | rfl
    · have e : PyUw80.shape 0 = some (2, 1) := rfl
      rw [call_eq e] at h
      split at h
      · simp at h
      · rename_i hl
        cases er : PyFlat.rows 1 (r.drop 2) with
        | none => rw [er] at h; simp at h
        | some q =>
          obtain ⟨xs, t'⟩ := q
          rw [er] at h
          simp at h
          obtain ⟨rfl, rfl⟩ := h
          obtain ⟨x, rfl, ex⟩ := rows1 er
          match r, hl with
          | m :: k :: r', _ =>
            simp at ex
            subst ex
            have hb' : ((PyInside.within 0 4294967295 m && (PyInside.within 0 4294967295 k && true)) && ((decide (0 ≤ x.length) && decide (x.length ≤ 30) && x.all (PyInside.within 0 4294967295)) && true)) = true := hb
            simp only [Bool.and_eq_true, decide_eq_true_eq] at hb'
            obtain ⟨⟨h1, h2, _⟩, ⟨⟨_, h3⟩, h4⟩, _⟩ := hb'
            obtain ⟨m, rfl, bm⟩ := nat_of h1
            obtain ⟨k, rfl, bk⟩ := nat_of h2
            obtain ⟨l, rfl, bl⟩ := nats_of h4
            rw [ints_len] at h3
            refine ⟨.coins m k l, by simp [flat, ints_len], ⟨bm, bk, h3, bl⟩, ?_⟩
            show Uw80Neutral.callOf (0 :: (m : Int) :: (k : Int) :: Uw80.ints l) = _
            unfold Uw80Neutral.callOf
            rw [if_neg (by rw [List.all_cons, List.all_cons, List.all_cons, ints_nat bl, big_nat bm, big_nat bk]; decide)]
            rw [List.map_cons, List.map_cons, List.map_cons, ints_toNat]
            rfl
    · have e : PyUw80.shape 1 = some (1, 0) := rfl
      rw [call_eq e] at h
      split at h
      · simp at h
      · rename_i hl
        simp [PyFlat.rows] at h
        obtain ⟨rfl, rfl⟩ := h
        match r, hl with
        | i :: r', _ =>
          have hb' : ((PyInside.within 0 4294967295 i && true) && true) = true := hb
          simp only [Bool.and_eq_true] at hb'
          obtain ⟨i, rfl, bi⟩ := nat_of hb'.1.1
          refine ⟨.turn i, by simp [flat], bi, ?_⟩
          show Uw80Neutral.callOf [1, (i : Int)] = _
          unfold Uw80Neutral.callOf
          rw [if_neg (by rw [List.all_cons, List.all_cons, big_nat bi]; decide)]
          rfl
    · have e : PyUw80.shape 2 = some (1, 0) := rfl
      rw [call_eq e] at h
      split at h
      · simp at h
      · rename_i hl
        simp [PyFlat.rows] at h
        obtain ⟨rfl, rfl⟩ := h
        match r, hl with
        | i :: r', _ =>
          have hb' : ((PyInside.within 0 4294967295 i && true) && true) = true := hb
          simp only [Bool.and_eq_true] at hb'
          obtain ⟨i, rfl, bi⟩ := nat_of hb'.1.1
          refine ⟨.places i, by simp [flat], bi, ?_⟩
          show Uw80Neutral.callOf [2, (i : Int)] = _
          unfold Uw80Neutral.callOf
          rw [if_neg (by rw [List.all_cons, List.all_cons, big_nat bi]; decide)]
          rfl
    · have e : PyUw80.shape 3 = some (0, 0) := rfl
      rw [call_eq e] at h
      simp [PyFlat.rows] at h
      obtain ⟨rfl, rfl⟩ := h
      exact ⟨.shows, by simp [flat], trivial, rfl⟩
    · have e : PyUw80.shape 4 = some (0, 1) := rfl
      rw [call_eq e] at h
      simp only [List.drop_zero] at h
      rw [if_neg (by omega)] at h
      cases er : PyFlat.rows 1 r with
      | none => rw [er] at h; simp at h
      | some q =>
        obtain ⟨xs, t'⟩ := q
        rw [er] at h
        simp at h
        obtain ⟨rfl, rfl⟩ := h
        obtain ⟨x, rfl, rfl⟩ := rows1 er
        have hb' : (true && ((decide (0 ≤ x.length) && decide (x.length ≤ 30) && x.all (PyInside.within 0 4294967295)) && true)) = true := hb
        simp only [Bool.and_eq_true, decide_eq_true_eq] at hb'
        obtain ⟨_, ⟨⟨_, h3⟩, h4⟩, _⟩ := hb'
        obtain ⟨l, rfl, bl⟩ := nats_of h4
        rw [ints_len] at h3
        refine ⟨.to l, by simp [flat, ints_len], ⟨h3, bl⟩, ?_⟩
        show Uw80Neutral.callOf (4 :: Uw80.ints l) = _
        unfold Uw80Neutral.callOf
        rw [if_neg (by rw [List.all_cons, ints_nat bl]; decide)]
        rw [List.map_cons, ints_toNat]
        rfl
    · have e : PyUw80.shape 5 = some (0, 1) := rfl
      rw [call_eq e] at h
      simp only [List.drop_zero] at h
      rw [if_neg (by omega)] at h
      cases er : PyFlat.rows 1 r with
      | none => rw [er] at h; simp at h
      | some q =>
        obtain ⟨xs, t'⟩ := q
        rw [er] at h
        simp at h
        obtain ⟨rfl, rfl⟩ := h
        obtain ⟨x, rfl, rfl⟩ := rows1 er
        have hb' : (true && ((decide (0 ≤ x.length) && decide (x.length ≤ 30) && x.all (PyInside.within 0 4294967295)) && true)) = true := hb
        simp only [Bool.and_eq_true, decide_eq_true_eq] at hb'
        obtain ⟨_, ⟨⟨_, h3⟩, h4⟩, _⟩ := hb'
        obtain ⟨l, rfl, bl⟩ := nats_of h4
        rw [ints_len] at h3
        refine ⟨.plans l, by simp [flat, ints_len], ⟨h3, bl⟩, ?_⟩
        show Uw80Neutral.callOf (5 :: Uw80.ints l) = _
        unfold Uw80Neutral.callOf
        rw [if_neg (by rw [List.all_cons, ints_nat bl]; decide)]
        rw [List.map_cons, ints_toNat]
        rfl
    · have e : PyUw80.shape 6 = some (0, 0) := rfl
      rw [call_eq e] at h
      simp [PyFlat.rows] at h
      obtain ⟨rfl, rfl⟩ := h
      exact ⟨.rows, by simp [flat], trivial, rfl⟩
    · have e : PyUw80.shape 7 = some (0, 0) := rfl
      rw [call_eq e] at h
      simp [PyFlat.rows] at h
      obtain ⟨rfl, rfl⟩ := h
      exact ⟨.farthest, by simp [flat], trivial, rfl⟩
theorem calls_of : ∀ (f : Nat) (l : List Int) (raw : List (List (List Int))), PyFlat.calls PyUw80.shape f l = some raw → PyInside.calls PyUw80.bound raw = true →
    ∃ cs : List Uw80.Call, l = cs.flatMap flat ∧ (∀ c ∈ cs, Bnd c) ∧ cs.length = raw.length ∧
      ∀ s, PyFlat.told (PyFlat.played (fun s c => Uw80Neutral.step s (c.headD [])) s (raw.map PyUw80.whole)) = toldF s cs := by
  intro f
  induction f with
  | zero =>
    intro l raw h hb
    cases l with
    | nil => simp [PyFlat.calls] at h; subst h; exact ⟨[], rfl, by simp, rfl, fun s => rfl⟩
    | cons p r => simp [PyFlat.calls] at h
  | succ f ih =>
    intro l raw h hb
    cases l with
    | nil => simp [PyFlat.calls] at h; subst h; exact ⟨[], rfl, by simp, rfl, fun s => rfl⟩
    | cons p r =>
      cases e : PyFlat.call PyUw80.shape (p :: r) with
      | none => rw [calls_no e] at h; cases h
      | some q =>
        obtain ⟨c, t⟩ := q
        rw [calls_eq e] at h
        cases e2 : PyFlat.calls PyUw80.shape f t with
        | none => rw [e2] at h; simp at h
        | some rest =>
          rw [e2] at h
          simp at h
          subst h
          have hb2 : PyInside.call PyUw80.bound c = true ∧ PyInside.calls PyUw80.bound rest = true := by
            unfold PyInside.calls at hb ⊢
            rw [List.all_cons, Bool.and_eq_true] at hb
            exact hb
          obtain ⟨x, ex, bx, hx⟩ := call_of e hb2.1
          obtain ⟨cs, ecs, bcs, lcs, tcs⟩ := ih t rest e2 hb2.2
          refine ⟨x :: cs, by rw [ex, ecs, List.flatMap_cons], fun c hc => (List.mem_cons.mp hc).elim (fun e => e ▸ bx) (bcs c), by simp [lcs], fun s => ?_⟩
          have es : Uw80Neutral.step s ((PyUw80.whole c).headD []) = Uw80.step s x := by
            unfold Uw80Neutral.step
            rw [hx]
            rfl
          rw [List.map_cons]
          show PyFlat.told ((Uw80Neutral.step s ((PyUw80.whole c).headD [])).2 :: PyFlat.played _ (Uw80Neutral.step s ((PyUw80.whole c).headD [])).1 (rest.map PyUw80.whole)) = _
          rw [es]
          show (((Uw80.step s x).2.length : Int) :: (Uw80.step s x).2) ++ PyFlat.told _ = _
          rw [tcs]
          rfl
/-- what is asked of a list, as calls -/
theorem asked_calls {l : List Int} (h : PyUw80.answers_asked l = true) : ∃ cs : List Uw80.Call, l = cs.flatMap flat ∧ (∀ c ∈ cs, Bnd c) ∧ cs ≠ [] ∧ cs.length ≤ 40 ∧ PyUw80.answers l = toldF Uw80.init cs ∧ (toldF Uw80.init cs).length ≤ 10000000 := by
  unfold PyUw80.answers_asked at h
  cases e : PyFlat.calls PyUw80.shape l.length l with
  | none => rw [e] at h; simp at h
  | some raw =>
    rw [e] at h
    simp only [Bool.and_eq_true] at h
    obtain ⟨⟨⟨⟨h1, h2⟩, h3⟩, _⟩, h5⟩ := h
    obtain ⟨cs, ecs, bcs, lcs, tcs⟩ := calls_of _ _ _ e h3
    have ea : PyUw80.answers l = toldF Uw80.init cs := by
      unfold PyUw80.answers PyUw80.calls
      rw [e]
      exact tcs _
    refine ⟨cs, ecs, bcs, ?_, ?_, ea, ?_⟩
    · rintro rfl
      cases raw with
      | nil => simp at h1
      | cons _ _ => simp at lcs
    · rw [lcs]
      simpa [PyFlat.atMost] using h2
    · rw [← ea]
      simpa [PyFlat.short] using h5
/-! one call after another -/
theorem toldF_append (s : St) : ∀ (a b : List Uw80.Call), toldF s (a ++ b) = toldF s a ++ toldF (after s a) b := by
  intro a
  induction a generalizing s with
  | nil => intro b; rfl
  | cons c r ih =>
    intro b
    show _ ++ toldF _ (r ++ b) = _
    rw [ih, ← List.append_assoc]
    rfl
theorem after_append (s : St) : ∀ (a b : List Uw80.Call), after s (a ++ b) = after (after s a) b := by
  intro a
  induction a generalizing s with
  | nil => intro b; rfl
  | cons c r ih => intro b; exact ih _ b
theorem flat_ne (c : Uw80.Call) : 0 < (flat c).length := by cases c <;> simp [flat]
end Cm
/-! Sizes of the numbering, and items by their place. -/
namespace Cm
open Uw80
theorem choices_len : ∀ (l : List Nat) (k : Nat), (choices k l).length ≤ 2 ^ l.length := by
  intro l
  induction l with
  | nil => intro k; cases k <;> simp [choices]
  | cons x r ih =>
    intro k
    cases k with
    | zero => rw [choices_zero]; exact Nat.one_le_two_pow
    | succ k =>
      show (((choices k r).map fun s => x :: s) ++ choices (k + 1) r).length ≤ _
      rw [List.length_append, List.length_map, List.length_cons, Nat.pow_succ]
      have h1 := ih k
      have h2 := ih (k + 1)
      omega
theorem setsN_len {n : Nat} (hn : n ≤ 10) (k : Nat) : (setsN n k).length ≤ 1024 := by
  rw [setsN_is]
  have h1 := choices_len (List.range n) k
  rw [List.length_range] at h1
  exact Nat.le_trans h1 (Nat.pow_le_pow_right (by decide) hn)
theorem setsN_mem {n k : Nat} {s : List Nat} (h : s ∈ setsN n k) : s.length = k ∧ Rising n s := by
  rw [setsN_is] at h
  obtain ⟨h1, h2⟩ := choices_sub h
  exact ⟨h2, rising_sub h1⟩
theorem from_le {n : Nat} {s : List Nat} (h : ∀ x ∈ s, x < n) : from_ 0 s ≤ n := by
  unfold from_
  cases e : s.getLast? with
  | none => exact Nat.zero_le _
  | some x => exact h x (List.mem_of_getLast? e)
theorem ext_get {n i : Nat} {s : List Nat} (h : i < n - from_ 0 s) : (ext 0 n s)[i]? = some (s ++ [from_ 0 s + i]) := by
  unfold ext rng
  rw [List.getElem?_map, List.getElem?_range' h]
  simp
theorem ext_len (n : Nat) (s : List Nat) : (ext 0 n s).length = n - from_ 0 s := by
  unfold ext rng
  simp
theorem from_last {s : List Nat} {x : Nat} : from_ 0 (s ++ [x]) = x + 1 := by
  unfold from_
  simp
theorem take_snoc {α : Type} {l : List α} {i : Nat} {x : α} (h : l[i]? = some x) : l.take (i + 1) = l.take i ++ [x] := by
  obtain ⟨h1, h2⟩ := List.getElem?_eq_some_iff.mp h
  rw [← h2, List.take_succ_eq_append_getElem h1]
theorem flat_take {α β : Type} {f : α → List β} {l : List α} {i : Nat} {x : α} (h : l[i]? = some x) : (l.take (i + 1)).flatMap f = (l.take i).flatMap f ++ f x := by
  rw [take_snoc h, List.flatMap_append]
  simp
theorem flat_take_le {α β : Type} (f : α → List β) (l : List α) (i : Nat) : ((l.take i).flatMap f).length ≤ (l.flatMap f).length := by
  have : l.flatMap f = (l.take i).flatMap f ++ (l.drop i).flatMap f := by rw [← List.flatMap_append, List.take_append_drop]
  rw [this, List.length_append]
  omega
/-- a sorted list of the k places from i on in the ring, or of those that reach around nowhere -/
theorem ring_sorted {n k i : Nat} (hi : i < n) (hk : k ≤ n) {l : List Nat} (up : l.Pairwise (· ≤ ·)) (h : l.Perm ((List.range k).map fun j => (i + j) % n)) :
    l = (List.range n).filter fun p => decide ((p + n - i) % n < k) := by
  have nd : ((List.range k).map fun j => (i + j) % n).Nodup := by
    rw [List.Nodup, List.pairwise_map]
    refine List.Pairwise.imp_of_mem ?_ (List.pairwise_lt_range (n := k))
    intro a b ha hb hab e
    have ha := List.mem_range.mp ha
    have hb := List.mem_range.mp hb
    rw [mod_wrap (show i + a < 2 * n by omega), mod_wrap (show i + b < 2 * n by omega)] at e
    split at e <;> split at e <;> omega
  have nd' : l.Nodup := h.nodup_iff.mpr nd
  have up' : l.Pairwise (· < ·) := by
    have := List.pairwise_and_iff.mpr ⟨up, nd'⟩
    exact this.imp fun ⟨h1, h2⟩ => by omega
  refine ring_is hi hk up' fun x => ?_
  rw [h.mem_iff, List.mem_map]
  constructor
  · rintro ⟨j, hj, rfl⟩; exact ⟨j, List.mem_range.mp hj, rfl⟩
  · rintro ⟨j, hj, rfl⟩; exact ⟨j, List.mem_range.mpr hj, rfl⟩
theorem row_sorted {n k i : Nat} (hi : i + k ≤ n) {l : List Nat} (up : l.Pairwise (· ≤ ·)) (h : l.Perm ((List.range k).map fun j => (i + j) % n)) : l = (List.range k).map fun j => i + j := by
  have e : ((List.range k).map fun j => (i + j) % n) = (List.range k).map fun j => i + j := by
    apply List.map_congr_left
    intro j hj
    have := List.mem_range.mp hj
    exact Nat.mod_eq_of_lt (by omega)
  rw [e] at h
  have up2 : ((List.range k).map fun j => i + j).Pairwise (· < ·) := by
    rw [List.pairwise_map]
    exact List.pairwise_lt_range.imp fun h => by omega
  have nd2 : ((List.range k).map fun j => i + j).Nodup := up2.imp fun h => by omega
  have nd' : l.Nodup := h.nodup_iff.mpr nd2
  have up' : l.Pairwise (· < ·) := by
    have := List.pairwise_and_iff.mpr ⟨up, nd'⟩
    exact this.imp fun ⟨h1, h2⟩ => by omega
  exact sorted_uniq up' up2 fun x => h.mem_iff
end Cm
/-! How many places a turn has; how many coins show 1. -/
namespace Cm
open Uw80
theorem ring_mem {n k i x : Nat} (hi : i < n) (hk : k ≤ n) : x ∈ (List.range n).filter (fun p => decide ((p + n - i) % n < k)) ↔ x ∈ (List.range k).map fun j => (i + j) % n := by
  rw [List.mem_filter, List.mem_range, decide_eq_true_iff, List.mem_map]
  constructor
  · rintro ⟨hx, hq⟩
    refine ⟨(x + n - i) % n, List.mem_range.mpr hq, ?_⟩
    rw [mod_wrap (show x + n - i < 2 * n by omega)]
    split
    · rw [mod_wrap (by omega)]
      split <;> omega
    · rw [mod_wrap (by omega)]
      split <;> omega
  · rintro ⟨j, hj, rfl⟩
    have hj := List.mem_range.mp hj
    refine ⟨Nat.mod_lt _ (by omega), ?_⟩
    rw [mod_wrap (show i + j < 2 * n by omega)]
    split
    · have : i + j + n - i = j + n := by omega
      rw [this, Nat.add_mod_right, Nat.mod_eq_of_lt (by omega)]
      exact hj
    · have : i + j - n + n - i = j := by omega
      rw [this, Nat.mod_eq_of_lt (by omega)]
      exact hj
theorem ring_nodup {n k i : Nat} (hi : i < n) (hk : k ≤ n) : ((List.range k).map fun j => (i + j) % n).Nodup := by
  rw [List.Nodup, List.pairwise_map]
  refine List.Pairwise.imp_of_mem ?_ (List.pairwise_lt_range (n := k))
  intro a b ha hb hab e
  have ha := List.mem_range.mp ha
  have hb := List.mem_range.mp hb
  rw [mod_wrap (show i + a < 2 * n by omega), mod_wrap (show i + b < 2 * n by omega)] at e
  split at e <;> split at e <;> omega
theorem turns_len {m k n : Nat} (hk : k ≤ n) {p : List Nat} (h : p ∈ turns m k n) : p.length = k := by
  unfold turns at h
  split at h
  · exact (choices_sub h).2
  · split at h
    · obtain ⟨i, _, rfl⟩ := List.mem_map.mp h
      simp
    · obtain ⟨i, hi, rfl⟩ := List.mem_map.mp h
      have hi := List.mem_range.mp hi
      have n1 : ((List.range n).filter fun p => decide ((p + n - i) % n < k)).Nodup := List.Nodup.sublist List.filter_sublist List.nodup_range
      have p : ((List.range n).filter fun p => decide ((p + n - i) % n < k)).Perm ((List.range k).map fun j => (i + j) % n) :=
        (List.perm_ext_iff_of_nodup n1 (ring_nodup hi hk)).mpr fun x => ring_mem hi hk
      rw [p.length_eq, List.length_map, List.length_range]
theorem sum_ones : ∀ {row : List Nat}, (∀ c ∈ row, c ≤ 1) → (row.map fun (n : Nat) => (n : Int)).sum = (ones row : Int)
  | [], _ => rfl
  | c :: r, h => by
    have ih := sum_ones (row := r) fun x hx => h x (by simp [hx])
    have hc := h c (by simp)
    rw [List.map_cons, List.sum_cons, ih]
    unfold ones
    rw [List.filter_cons]
    rcases (by omega : c = 0 ∨ c = 1) with rfl | rfl
    · simp
    · simp
      omega
end Cm
/-! The search over changes: from 0 on, by a table in order. -/
namespace Cm
open Uw80
/-! ### shifting -/
theorem nbX_tr (fs : List Nat) (c x : Nat) : nbX fs (x ^^^ c) = (nbX fs x).map (· ^^^ c) := by
  unfold nbX
  rw [List.map_map]
  apply List.map_congr_left
  intro f _
  show (x ^^^ c) ^^^ f = (x ^^^ f) ^^^ c
  rw [Nat.xor_assoc, Nat.xor_comm c f, ← Nat.xor_assoc]
theorem tr_inj (c x y : Nat) (h : x ^^^ c = y ^^^ c) : x = y := by
  have := congrArg (· ^^^ c) h
  simpa [xor_xor] using this
theorem dist_tr {fs : List Nat} {s x c d : Nat} : Dist (nbX fs) (s ^^^ c) (x ^^^ c) d ↔ Dist (nbX fs) s x d :=
  iso_dist (f := (· ^^^ c)) (ok := fun _ => True) (fun _ _ _ _ => trivial) (fun x _ => nbX_tr fs c x) (fun x y _ _ h => tr_inj c x y h) trivial trivial
theorem dist0 {fs : List Nat} {a b d : Nat} : Dist (nbX fs) a b d ↔ Dist (nbX fs) 0 (a ^^^ b) d := by
  rw [← dist_tr (c := a), Nat.xor_self, Nat.xor_comm b a]
theorem plan_tr {fs : List Nat} {t c d s : Nat} : firstPlan (nbX fs) (t ^^^ c) d (s ^^^ c) = firstPlan (nbX fs) t d s :=
  iso_plan (f := (· ^^^ c)) (ok := fun _ => True) (fun _ _ _ _ => trivial) (fun x _ => nbX_tr fs c x) (fun x y _ _ h => tr_inj c x y h) trivial trivial
theorem cnt_tr {fs : List Nat} {t c d s : Nat} : cnt (nbX fs) (t ^^^ c) d (s ^^^ c) = cnt (nbX fs) t d s :=
  iso_cnt (f := (· ^^^ c)) (ok := fun _ => True) (fun _ _ _ _ => trivial) (fun x _ => nbX_tr fs c x) (fun x y _ _ h => tr_inj c x y h) trivial trivial
theorem plan0 {fs : List Nat} {t d s : Nat} : firstPlan (nbX fs) 0 d (s ^^^ t) = firstPlan (nbX fs) t d s := by
  have := plan_tr (fs := fs) (t := t) (c := t) (d := d) (s := s)
  rw [Nat.xor_self] at this
  exact this
theorem cnt0 {fs : List Nat} {t d s : Nat} : cnt (nbX fs) 0 d (s ^^^ t) = cnt (nbX fs) t d s := by
  have := cnt_tr (fs := fs) (t := t) (c := t) (d := d) (s := s)
  rw [Nat.xor_self] at this
  exact this
/-! ### tables -/
theorem look_iff : ∀ {D : List (Nat × Nat)}, (D.map (·.1)).Nodup → ∀ {e j : Nat}, D.lookup e = some j ↔ (e, j) ∈ D
  | [], _, e, j => by simp
  | (a, b) :: r, nd, e, j => by
    rw [List.map_cons, List.nodup_cons] at nd
    have ih := look_iff nd.2 (e := e) (j := j)
    by_cases h : e = a
    · subst h
      rw [List.lookup_cons_self, List.mem_cons]
      constructor
      · intro q; left; cases q; rfl
      · rintro (q | q)
        · cases q; rfl
        · exact absurd (List.mem_map.mpr ⟨_, q, rfl⟩) nd.1
    · rw [List.lookup_cons, beq_eq_false_iff_ne.mpr h]
      show r.lookup e = some j ↔ _
      rw [ih, List.mem_cons]
      constructor
      · exact .inr
      · rintro (q | q)
        · cases q; exact absurd rfl h
        · exact q
theorem look_none : ∀ {D : List (Nat × Nat)} {e : Nat}, D.lookup e = none ↔ ¬ e ∈ D.map (·.1)
  | [], e => by simp
  | (a, b) :: r, e => by
    have ih := look_none (D := r) (e := e)
    by_cases h : e = a
    · subst h
      rw [List.lookup_cons_self]
      simp
    · rw [List.lookup_cons, beq_eq_false_iff_ne.mpr h]
      show r.lookup e = none ↔ _
      rw [ih, List.map_cons, List.mem_cons]
      constructor
      · rintro q (z | z)
        · exact h z
        · exact q z
      · exact fun q z => q (.inr z)
theorem nodup_len {l : List Nat} {N : Nat} (nd : l.Nodup) (h : ∀ e ∈ l, e < N) : l.length ≤ N := by
  have n1 : ((List.range N).filter fun e => decide (e ∈ l)).Nodup := List.Nodup.sublist List.filter_sublist List.nodup_range
  have p : ((List.range N).filter fun e => decide (e ∈ l)).Perm l := (List.perm_ext_iff_of_nodup n1 nd).mpr fun e => by
    rw [List.mem_filter, List.mem_range, decide_eq_true_iff]
    exact ⟨fun q => q.2, fun q => ⟨h e q, q⟩⟩
  rw [← p.length_eq]
  have := List.length_filter_le (fun e => decide (e ∈ l)) (List.range N)
  rwa [List.length_range] at this
theorem keys_len {D : List (Nat × Nat)} {N : Nat} (nd : (D.map (·.1)).Nodup) (h : ∀ p ∈ D, p.1 < N) : D.length ≤ N := by
  have := nodup_len (N := N) nd fun e he => by
    obtain ⟨p, hp, rfl⟩ := List.mem_map.mp he
    exact h p hp
  rwa [List.length_map] at this
/-- between two waves: all that are at most d off, and the last of them -/
structure Lev (fs : List Nat) (d : Nat) (D : List (Nat × Nat)) (l : List Nat) : Prop where
  nd : (D.map (·.1)).Nodup
  mem : ∀ e j, (e, j) ∈ D ↔ j ≤ d ∧ Dist (nbX fs) 0 e j
  up : D.Pairwise (fun p q => p.2 ≤ q.2)
  head : D[0]? = some (0, 0)
  new : ∀ e, e ∈ l ↔ Dist (nbX fs) 0 e d
theorem lev_0 (fs : List Nat) : Lev fs 0 [(0, 0)] [0] := by
  refine ⟨by simp, fun e j => ?_, by simp, rfl, fun e => ?_⟩
  · rw [List.mem_singleton]
    constructor
    · intro q; cases q; exact ⟨Nat.le_refl _, (Dist.zero _).mpr rfl⟩
    · rintro ⟨h, q⟩
      have : j = 0 := by omega
      subst this
      rw [(Dist.zero _).mp q]
  · rw [List.mem_singleton, Dist.zero]
/-- within a wave -/
structure Mid (d : Nat) (D0 : List (Nat × Nat)) (C : Nat → Prop) (D : List (Nat × Nat)) (far : List Nat) : Prop where
  eq : D = D0 ++ far.map fun e => (e, d + 1)
  nd : far.Nodup
  mem : ∀ e, e ∈ far ↔ C e ∧ D0.lookup e = none
theorem Mid.start {d : Nat} {D0 : List (Nat × Nat)} : Mid d D0 (fun _ => False) D0 [] := ⟨by simp, by simp, fun e => by simp⟩
theorem Mid.congr {d : Nat} {D0 D : List (Nat × Nat)} {C C' : Nat → Prop} {far : List Nat} (M : Mid d D0 C D far) (h : ∀ e, C e ↔ C' e) : Mid d D0 C' D far := ⟨M.eq, M.nd, fun e => by rw [M.mem, h]⟩
theorem keys_far (far : List Nat) (d : Nat) : (far.map fun e => (e, d + 1)).map (·.1) = far := by
  rw [List.map_map]
  exact List.map_id _
theorem Mid.none_iff {d : Nat} {D0 D : List (Nat × Nat)} {C : Nat → Prop} {far : List Nat} (M : Mid d D0 C D far) {e : Nat} : D.lookup e = none ↔ D0.lookup e = none ∧ ¬ e ∈ far := by
  rw [look_none, look_none, M.eq, List.map_append, keys_far, List.mem_append]
  constructor
  · exact fun h => ⟨fun q => h (.inl q), fun q => h (.inr q)⟩
  · rintro ⟨h1, h2⟩ (q | q)
    · exact h1 q
    · exact h2 q
theorem Mid.old {d : Nat} {D0 D : List (Nat × Nat)} {C : Nat → Prop} {far : List Nat} (M : Mid d D0 C D far) {e : Nat} (h : D.lookup e ≠ none) : Mid d D0 (fun y => C y ∨ y = e) D far := by
  refine ⟨M.eq, M.nd, fun y => ?_⟩
  rw [M.mem]
  constructor
  · exact fun q => ⟨.inl q.1, q.2⟩
  · rintro ⟨q | rfl, q2⟩
    · exact ⟨q, q2⟩
    · apply Classical.byContradiction
      intro z
      exact h (M.none_iff.mpr ⟨q2, fun m => z ((M.mem y).mp m)⟩)
theorem Mid.add {d : Nat} {D0 D : List (Nat × Nat)} {C : Nat → Prop} {far : List Nat} (M : Mid d D0 C D far) {e : Nat} (h : D.lookup e = none) : Mid d D0 (fun y => C y ∨ y = e) (D ++ [(e, d + 1)]) (far ++ [e]) := by
  obtain ⟨h1, h2⟩ := M.none_iff.mp h
  refine ⟨?_, ?_, fun y => ?_⟩
  · rw [M.eq, List.map_append, List.append_assoc]
    rfl
  · rw [List.nodup_append]
    refine ⟨M.nd, by simp, fun a ha b hb => ?_⟩
    rw [List.mem_singleton.mp hb]
    intro z
    exact h2 (z ▸ ha)
  · rw [List.mem_append, M.mem, List.mem_singleton]
    constructor
    · rintro (q | rfl)
      · exact ⟨.inl q.1, q.2⟩
      · exact ⟨.inr rfl, h1⟩
    · rintro ⟨q | q, q2⟩
      · exact .inl ⟨q, q2⟩
      · exact .inr q
theorem Mid.keys {d : Nat} {D0 D : List (Nat × Nat)} {C : Nat → Prop} {far : List Nat} (M : Mid d D0 C D far) (nd : (D0.map (·.1)).Nodup) : (D.map (·.1)).Nodup := by
  rw [M.eq, List.map_append, keys_far, List.nodup_append]
  refine ⟨nd, M.nd, fun a ha b hb z => ?_⟩
  subst z
  exact look_none.mp ((M.mem a).mp hb).2 ha
theorem Mid.look {d : Nat} {D0 D : List (Nat × Nat)} {C : Nat → Prop} {far : List Nat} (M : Mid d D0 C D far) (nd : (D0.map (·.1)).Nodup) {e j : Nat} (h : (e, j) ∈ D0) : D.lookup e = some j := by
  rw [look_iff (M.keys nd), M.eq]
  exact List.mem_append_left _ h
theorem Mid.lt {d N : Nat} {D0 D : List (Nat × Nat)} {C : Nat → Prop} {far : List Nat} (M : Mid d D0 C D far) (nd : (D0.map (·.1)).Nodup) (h0 : ∀ p ∈ D0, p.1 < N) (hC : ∀ e, C e → e < N) : D.length ≤ N := by
  refine keys_len (M.keys nd) fun p hp => ?_
  rw [M.eq, List.mem_append] at hp
  rcases hp with q | q
  · exact h0 p q
  · obtain ⟨e, he, rfl⟩ := List.mem_map.mp q
    exact hC e ((M.mem e).mp he).1
theorem Lev.klt {fs : List Nat} {d n : Nat} {D : List (Nat × Nat)} {l : List Nat} (L : Lev fs d D l) (hf : ∀ f ∈ fs, f < 2 ^ n) : ∀ p ∈ D, p.1 < 2 ^ n := by
  rintro ⟨e, j⟩ hp
  exact reach_lt hf (Nat.two_pow_pos n) ((L.mem e j).mp hp).2.1
theorem Lev.next {fs : List Nat} {d : Nat} {D0 D : List (Nat × Nat)} {l far : List Nat} (L : Lev fs d D0 l) (M : Mid d D0 (fun e => ∃ a ∈ l, e ∈ nbX fs a) D far) : Lev fs (d + 1) D far := by
  have free : ∀ e, D0.lookup e = none ↔ ∀ j, j ≤ d → ¬ Dist (nbX fs) 0 e j := by
    intro e
    rw [look_none]
    constructor
    · intro h j hj q
      exact h (List.mem_map.mpr ⟨_, (L.mem e j).mpr ⟨hj, q⟩, rfl⟩)
    · intro h q
      obtain ⟨⟨a, j⟩, hp, rfl⟩ := List.mem_map.mp q
      have := (L.mem a j).mp hp
      exact h j this.1 this.2
  have new : ∀ e, e ∈ far ↔ Dist (nbX fs) 0 e (d + 1) := by
    intro e
    rw [M.mem, Dist.succ, free]
    constructor
    · rintro ⟨⟨a, ha, q⟩, h⟩
      exact ⟨⟨a, (L.new a).mp ha, q⟩, h⟩
    · rintro ⟨⟨a, ha, q⟩, h⟩
      exact ⟨⟨a, (L.new a).mpr ha, q⟩, h⟩
  refine ⟨M.keys L.nd, fun e j => ?_, ?_, ?_, new⟩
  · rw [M.eq, List.mem_append, L.mem]
    constructor
    · rintro (q | q)
      · exact ⟨by omega, q.2⟩
      · obtain ⟨a, ha, e1⟩ := List.mem_map.mp q
        cases e1
        exact ⟨Nat.le_refl _, (new _).mp ha⟩
    · rintro ⟨h1, h2⟩
      by_cases hj : j ≤ d
      · exact .inl ⟨hj, h2⟩
      · have : j = d + 1 := by omega
        subst this
        exact .inr (List.mem_map.mpr ⟨e, (new e).mpr h2, rfl⟩)
  · rw [M.eq, List.pairwise_append]
    refine ⟨L.up, ?_, ?_⟩
    · rw [List.pairwise_map]
      exact List.Pairwise.imp (fun _ => Nat.le_refl _) M.nd
    · rintro ⟨a, b⟩ ha q hq
      obtain ⟨e, _, rfl⟩ := List.mem_map.mp hq
      have := ((L.mem a b).mp ha).1
      show b ≤ d + 1
      omega
  · rw [M.eq, List.getElem?_append_left]
    · exact L.head
    · have := L.head
      rw [List.getElem?_eq_some_iff] at this
      exact this.1
/-- the whole table -/
structure Far0 (fs : List Nat) (D : List (Nat × Nat)) : Prop where
  nd : (D.map (·.1)).Nodup
  mem : ∀ e j, (e, j) ∈ D ↔ Dist (nbX fs) 0 e j
  up : D.Pairwise (fun p q => p.2 ≤ q.2)
  head : D[0]? = some (0, 0)
theorem Lev.done {fs : List Nat} {d : Nat} {D : List (Nat × Nat)} (L : Lev fs d D []) : Far0 fs D := by
  refine ⟨L.nd, fun e j => ?_, L.up, L.head⟩
  rw [L.mem]
  refine ⟨fun q => q.2, fun q => ⟨?_, q⟩⟩
  apply Classical.byContradiction
  intro h
  exact Dist.none_from _ (d := d) (fun x hx => by simpa using (L.new x).mpr hx) j (by omega) e q
theorem Far0.look {fs : List Nat} {D : List (Nat × Nat)} (F : Far0 fs D) {e j : Nat} : D.lookup e = some j ↔ Dist (nbX fs) 0 e j := by
  rw [look_iff F.nd, F.mem]
theorem Far0.len {fs : List Nat} {D : List (Nat × Nat)} {n : Nat} (F : Far0 fs D) (hf : ∀ f ∈ fs, f < 2 ^ n) : D.length ≤ 2 ^ n :=
  keys_len F.nd fun p hp => reach_lt hf (Nat.two_pow_pos n) ((F.mem p.1 p.2).mp hp).1
/-- a step leads to what can be come to, one off at most -/
theorem dist_step {fs : List Nat} {x f j : Nat} (hx : Dist (nbX fs) 0 x j) (hf : f ∈ fs) : ∃ i, Dist (nbX fs) 0 (x ^^^ f) i ∧ i ≤ j + 1 ∧ j ≤ i + 1 := by
  obtain ⟨i, hi, hd⟩ := Dist.ex (nbX fs) (s := 0) (x := x ^^^ f) (j := j + 1) ⟨x, hx.1, mem_nbX.mpr ⟨f, hf, rfl⟩⟩
  refine ⟨i, hd, hi, ?_⟩
  apply Classical.byContradiction
  intro h
  exact hx.2 (i + 1) (by omega) ⟨x ^^^ f, hd.1, mem_nbX.mpr ⟨f, hf, (xor_xor x f).symm⟩⟩
/-- the turns behind which what is left needs fewer -/
def near (D : List (Nat × Nat)) (fs : List Nat) (x : Nat) : List Nat := (List.range fs.length).filter fun t => decide ((D.lookup (x ^^^ fs.getD t 0)).getD 0 < (D.lookup x).getD 0)
theorem getD_mem' {fs : List Nat} {t : Nat} (h : t < fs.length) : fs.getD t 0 ∈ fs := by
  rw [List.getD_eq_getElem?_getD, List.getElem?_eq_getElem h]
  exact List.getElem_mem h
theorem near_iff {fs : List Nat} {D : List (Nat × Nat)} (F : Far0 fs D) {x j t : Nat} (hx : Dist (nbX fs) 0 x (j + 1)) (ht : t < fs.length) :
    decide ((D.lookup (x ^^^ fs.getD t 0)).getD 0 < (D.lookup x).getD 0) = true ↔ Dist (nbX fs) 0 (x ^^^ fs.getD t 0) j := by
  obtain ⟨i, hi, h1, h2⟩ := dist_step hx (getD_mem' ht)
  rw [F.look.mpr hx, F.look.mpr hi, decide_eq_true_iff]
  show i < j + 1 ↔ _
  constructor
  · intro q
    have : i = j := by omega
    subst this
    exact hi
  · intro q
    have := Dist.uniq _ hi q
    omega
theorem near_plan {fs : List Nat} {D : List (Nat × Nat)} (F : Far0 fs D) {x j : Nat} {full : List Nat} (hx : Dist (nbX fs) 0 x (j + 1)) (h : firstPlan (nbX fs) 0 (j + 1) x = some full) :
    ∃ t ts rest, near D fs x = t :: ts ∧ t < fs.length ∧ Dist (nbX fs) 0 (x ^^^ fs.getD t 0) j ∧ firstPlan (nbX fs) 0 j (x ^^^ fs.getD t 0) = some rest ∧ full = t :: rest := by
  have hback := (Dist.sym (nbX fs) symX hx).1
  obtain ⟨y, hy, hr⟩ := (reach_fwd _).mp hback
  obtain ⟨f, hf, rfl⟩ := mem_nbX.mp hy
  have ex : ∃ t, t ∈ near D fs x := by
    obtain ⟨t, ht, he⟩ := List.mem_iff_getElem.mp hf
    have e : fs.getD t 0 = f := by rw [List.getD_eq_getElem?_getD, List.getElem?_eq_getElem ht, ← he]; rfl
    refine ⟨t, List.mem_filter.mpr ⟨List.mem_range.mpr ht, (near_iff F hx ht).mpr ?_⟩⟩
    rw [e]
    obtain ⟨i, hi, h1, h2⟩ := dist_step hx hf
    obtain ⟨i', hi', hd'⟩ := Dist.ex (nbX fs) (reach_sym (nbX fs) symX hr)
    have e1 := Dist.uniq _ hi hd'
    have e2 : i = j := by omega
    rw [← e2]; exact hi
  cases hn : near D fs x with
  | nil => rw [hn] at ex; obtain ⟨t, ht⟩ := ex; cases ht
  | cons t ts =>
    have hm : t ∈ near D fs x := by rw [hn]; simp
    obtain ⟨m1, m2⟩ := List.mem_filter.mp hm
    have ht : t < fs.length := List.mem_range.mp m1
    have hd := (near_iff F hx ht).mp m2
    have hp := (firstPlan_reach (nbX fs) (t := 0) (d := j) (s := x ^^^ fs.getD t 0)).mpr (Dist.sym (nbX fs) symX hd).1
    cases hq : firstPlan (nbX fs) 0 j (x ^^^ fs.getD t 0) with
    | none => exact absurd hq hp
    | some rest =>
      refine ⟨t, ts, rest, rfl, ht, hd, hq, ?_⟩
      have srt : (near D fs x).Pairwise (· < ·) := List.pairwise_lt_range.sublist List.filter_sublist
      have key := firstIn_some (g := firstPlan (nbX fs) 0 j) (l := nbX fs x) (i := 0) (k := t) (y := x ^^^ fs.getD t 0) (p := rest)
        (by unfold nbX; rw [List.getElem?_map, List.getElem?_eq_getElem ht, List.getD_eq_getElem?_getD, List.getElem?_eq_getElem ht]; rfl) hq
        (fun i z hi hz => by
          have hil : i < fs.length := by omega
          have ez : z = x ^^^ fs.getD i 0 := by
            unfold nbX at hz
            rw [List.getElem?_map, List.getElem?_eq_getElem hil] at hz
            rw [List.getD_eq_getElem?_getD, List.getElem?_eq_getElem hil]
            exact (Option.some.inj hz).symm
          apply Classical.byContradiction
          intro q
          have r := (firstPlan_reach (nbX fs)).mp q
          rw [ez] at r
          obtain ⟨i1, hi1, h1, h2⟩ := dist_step hx (getD_mem' hil)
          obtain ⟨i', hi', hd'⟩ := Dist.ex (nbX fs) (reach_sym (nbX fs) symX r)
          have e1 := Dist.uniq _ hi1 hd'
          have e2 : i1 = j := by omega
          have mem : i ∈ near D fs x := List.mem_filter.mpr ⟨List.mem_range.mpr hil, (near_iff F hx hil).mpr (e2 ▸ hi1)⟩
          rw [hn] at mem srt
          rcases List.mem_cons.mp mem with z1 | z1
          · omega
          · have := (List.pairwise_cons.mp srt).1 i z1
            omega)
      rw [Nat.zero_add] at key
      have h' : firstIn (firstPlan (nbX fs) 0 j) 0 (nbX fs x) = some full := h
      rw [h'] at key
      exact Option.some.inj key
/-! ### how many plans -/
theorem cnt_zero {α : Type} [DecidableEq α] {nb : α → List α} {t : α} : ∀ {d : Nat} {s : α}, ¬ reach nb s d t → cnt nb t d s = 0 := by
  intro d
  induction d with
  | zero =>
    intro s h
    show (if s = t then 1 else 0) = 0
    rw [if_neg (fun q => h q.symm)]
  | succ d ih =>
    intro s h
    show ((nb s).map (cnt nb t d)).sum = 0
    have : (nb s).map (cnt nb t d) = (nb s).map fun _ => 0 := List.map_congr_left fun y hy => ih fun r => h ((reach_fwd nb).mpr ⟨y, hy, r⟩)
    rw [this]
    exact sum_map_zero _
theorem sum_filter {α : Type} (p : α → Bool) (g : α → Nat) : ∀ (l : List α), (∀ x ∈ l, p x = false → g x = 0) → ((l.filter p).map g).sum = (l.map g).sum
  | [], _ => rfl
  | x :: r, h => by
    have ih := sum_filter p g r fun y hy => h y (by simp [hy])
    cases e : p x with
    | true => rw [List.filter_cons_of_pos e]; simp only [List.map_cons, List.sum_cons]; rw [ih]
    | false =>
      rw [List.filter_cons_of_neg (by simp [e])]
      simp only [List.map_cons, List.sum_cons]
      rw [ih, h x (by simp) e, Nat.zero_add]
theorem range_getD (fs : List Nat) : (List.range fs.length).map (fun t => fs.getD t 0) = fs := by
  apply List.ext_getElem?
  intro i
  rw [List.getElem?_map]
  by_cases h : i < fs.length
  · rw [List.getElem?_range h, List.getElem?_eq_getElem h, Option.map_some, List.getD_eq_getElem?_getD, List.getElem?_eq_getElem h]
    rfl
  · rw [List.getElem?_eq_none (by simpa using h), List.getElem?_eq_none (by omega)]
    rfl
theorem cnt_near {fs : List Nat} {D : List (Nat × Nat)} (F : Far0 fs D) {x j : Nat} (hx : Dist (nbX fs) 0 x (j + 1)) :
    ((near D fs x).map fun t => cnt (nbX fs) 0 j (x ^^^ fs.getD t 0)).sum = cnt (nbX fs) 0 (j + 1) x := by
  unfold near
  rw [sum_filter _ _ _ fun t ht q => ?_]
  · show _ = ((nbX fs x).map (cnt (nbX fs) 0 j)).sum
    unfold nbX
    rw [List.map_map]
    have e : (List.range fs.length).map (fun t => cnt (nbX fs) 0 j (x ^^^ fs.getD t 0)) = ((List.range fs.length).map (fun t => fs.getD t 0)).map (cnt (nbX fs) 0 j ∘ fun f => x ^^^ f) := by
      rw [List.map_map]
      rfl
    have e2 := e
    rw [range_getD] at e2
    exact congrArg List.sum e2
  · have ht : t < fs.length := List.mem_range.mp ht
    apply cnt_zero
    intro r
    obtain ⟨i1, hi1, h1, h2⟩ := dist_step hx (getD_mem' ht)
    obtain ⟨i', hi', hd'⟩ := Dist.ex (nbX fs) (reach_sym (nbX fs) symX r)
    have e1 := Dist.uniq _ hi1 hd'
    have e2 : i1 = j := by omega
    have := (near_iff F hx ht).mpr (e2 ▸ hi1)
    rw [this] at q
    cases q
def cn (fs : List Nat) (p : Nat × Nat) : Nat × Nat := (p.1, cnt (nbX fs) 0 p.2 p.1)
theorem cn_keys (fs : List Nat) (D : List (Nat × Nat)) : (D.map (cn fs)).map (·.1) = D.map (·.1) := by
  rw [List.map_map]
  rfl
theorem cn_look {fs : List Nat} {D : List (Nat × Nat)} (F : Far0 fs D) {i e j y : Nat} (hi : D[i]? = some (e, j + 1)) (hy : Dist (nbX fs) 0 y j) : ((D.take i).map (cn fs)).lookup y = some (cnt (nbX fs) 0 j y) := by
  have nd : (((D.take i).map (cn fs)).map (·.1)).Nodup := by
    rw [cn_keys]
    exact F.nd.sublist ((List.take_sublist i D).map _)
  rw [look_iff nd]
  have hm := (F.mem y j).mpr hy
  obtain ⟨q, hq, e1⟩ := List.mem_iff_getElem.mp hm
  obtain ⟨hil, ei⟩ := List.getElem?_eq_some_iff.mp hi
  have lt : q < i := by
    apply Classical.byContradiction
    intro z
    by_cases z2 : q = i
    · subst z2
      rw [e1] at ei
      cases ei
      all_goals omega
    · have := (List.pairwise_iff_getElem.mp F.up) i q hil hq (by omega)
      rw [ei, e1] at this
      have this : j + 1 ≤ j := this
      omega
  refine List.mem_map.mpr ⟨(y, j), ?_, rfl⟩
  rw [← e1]
  exact List.mem_take_iff_getElem.mpr ⟨q, by omega, rfl⟩
theorem cn_new {fs : List Nat} {D : List (Nat × Nat)} (F : Far0 fs D) {i : Nat} {p : Nat × Nat} (hi : D[i]? = some p) : ((D.take i).map (cn fs)).lookup p.1 = none := by
  rw [look_none, cn_keys]
  intro h
  obtain ⟨q, hq, e⟩ := List.mem_map.mp h
  obtain ⟨k, hk, e1⟩ := List.mem_take_iff_getElem.mp hq
  obtain ⟨hil, ei⟩ := List.getElem?_eq_some_iff.mp hi
  have hkl : k < D.length := by omega
  have := (List.pairwise_iff_getElem.mp F.nd) k i (by simpa using hkl) (by simpa using hil) (by omega)
  rw [List.getElem_map, List.getElem_map, ei, e1] at this
  exact this e
theorem cn_all {fs : List Nat} {D : List (Nat × Nat)} (F : Far0 fs D) {e j : Nat} (h : Dist (nbX fs) 0 e j) : (D.map (cn fs)).lookup e = some (cnt (nbX fs) 0 j e) := by
  rw [look_iff (by rw [cn_keys]; exact F.nd)]
  exact List.mem_map.mpr ⟨(e, j), (F.mem e j).mpr h, rfl⟩
end Cm
/-! What is answered of the table. -/
namespace Cm
open Uw80
/-! ### a turn's change -/
theorem change_code {n : Nat} {p : List Nat} (R : Rising n p) : code ((List.range n).map fun i => if p.contains i = true then 1 else 0) = Uw80.flip n p := by
  have ok : OkRow n ((List.range n).map fun i => if p.contains i = true then 1 else 0) := by
    refine ⟨by simp, fun c hc => ?_⟩
    obtain ⟨i, _, rfl⟩ := List.mem_map.mp hc
    split <;> omega
  apply Nat.eq_of_testBit_eq
  intro j
  rw [R.tb]
  by_cases hj : j < n
  · have e : n - 1 - (n - 1 - j) = j := by omega
    have h := ok.tb (i := n - 1 - j) (by omega)
    rw [e] at h
    rw [h, List.getElem?_map, List.getElem?_range (by omega), Option.map_some]
    by_cases q : n - 1 - j ∈ p
    · have : p.contains (n - 1 - j) = true := by simpa using q
      rw [if_pos this]
      simp [hj, q]
    · have : ¬ p.contains (n - 1 - j) = true := by simpa using q
      rw [if_neg this]
      simp [q]
  · rw [Nat.testBit_lt_two_pow (Nat.lt_of_lt_of_le ok.lt (Nat.pow_le_pow_right (by decide) (by omega)))]
    simp [hj]
/-! ### a row's number, digit by digit -/
theorem code_snoc (a : List Nat) (x : Nat) : code (a ++ [x]) = code a * 2 + x := by
  unfold code
  rw [List.foldl_append]
  show 2 * _ + x = _
  omega
section
variable {z : Coins} {n : Nat} (hz : OkRow n z.row)
include hz
theorem to_iff {t : List Nat} (ht : OkRow n t) {d : Nat} : Dist (nbX (fsOf z.mode z.k n)) 0 (code z.row ^^^ code t) d ↔ Dist (nbR z.mode z.k) z.row t d := by
  rw [← dist0, dist_code hz ht]
theorem to_some {t : List Nat} (ht : OkRow n t) {d : Nat} (h : Dist (nbX (fsOf z.mode z.k n)) 0 (code z.row ^^^ code t) d) :
    ∃ p, planTo z t = some p ∧ firstPlan (nbX (fsOf z.mode z.k n)) 0 d (code z.row ^^^ code t) = some p ∧ p.length = d ∧ countPlans z t d = cnt (nbX (fsOf z.mode z.k n)) 0 d (code z.row ^^^ code t) := by
  obtain ⟨p, h1, h2, h3⟩ := planTo_some hz ht ((to_iff hz ht).mp h)
  refine ⟨p, h1, ?_, h3, ?_⟩
  · rw [plan0, iso_plan nb_ok nb_code inj_code ht hz]
    exact h2
  · rw [cnt0, countPlans_is hz ht, iso_cnt nb_ok nb_code inj_code ht hz]
theorem to_none {t : List Nat} (ht : OkRow n t) (h : ∀ d, ¬ Dist (nbX (fsOf z.mode z.k n)) 0 (code z.row ^^^ code t) d) : planTo z t = none :=
  planTo_none hz ht fun d q => h d ((to_iff hz ht).mpr q)
theorem xor_back (a b : Nat) : a ^^^ (a ^^^ b) = b := by rw [← Nat.xor_assoc, Nat.xor_self, Nat.zero_xor]
/-- the rows by their changes -/
theorem row_mem {r : List Nat} {x : Nat} (hx : x < 2 ^ n) : r = rowOf n (code z.row ^^^ x) ↔ OkRow n r ∧ code z.row ^^^ code r = x := by
  have lt : code z.row ^^^ x < 2 ^ n := Nat.xor_lt_two_pow hz.lt hx
  constructor
  · rintro rfl
    refine ⟨rowOf_ok n _, ?_⟩
    rw [code_rowOf lt]
    exact xor_back hz _ _
  · rintro ⟨ok, rfl⟩
    rw [xor_back hz, rowOf_code ok]
theorem rows_mem {L : List Nat} (hL : ∀ x ∈ L, x < 2 ^ n) (nd : L.Nodup) : (L.map fun x => rowOf n (code z.row ^^^ x)).Nodup ∧ ∀ r, r ∈ L.map (fun x => rowOf n (code z.row ^^^ x)) ↔ OkRow n r ∧ code z.row ^^^ code r ∈ L := by
  constructor
  · rw [List.Nodup, List.pairwise_map]
    refine List.Pairwise.imp_of_mem ?_ nd
    intro a b ha hb hab e
    have h1 := (row_mem hz (hL a ha)).mp rfl
    have h2 := (row_mem hz (hL b hb)).mp e
    exact hab (h1.2.symm.trans h2.2)
  · intro r
    rw [List.mem_map]
    constructor
    · rintro ⟨x, hx, e⟩
      have := (row_mem hz (hL x hx)).mp e.symm
      exact ⟨this.1, this.2 ▸ hx⟩
    · rintro ⟨ok, h⟩
      exact ⟨_, h, ((row_mem hz (hL _ h)).mpr ⟨ok, rfl⟩).symm⟩
variable {D : List (Nat × Nat)} (F : Far0 (fsOf z.mode z.k n) D)
include F
theorem D_lt : ∀ p ∈ D, p.1 < 2 ^ n := fun p hp => reach_lt fsOf_lt (Nat.two_pow_pos n) ((F.mem p.1 p.2).mp hp).1
theorem rows_D : (reached z).length = D.length := by
  have hL : ∀ x ∈ D.map (·.1), x < 2 ^ n := fun x hx => by
    obtain ⟨p, hp, rfl⟩ := List.mem_map.mp hx
    exact D_lt hz F p hp
  obtain ⟨nd, mem⟩ := rows_mem hz hL F.nd
  have := rows_is hz nd fun r => by
    rw [mem]
    constructor
    · rintro ⟨ok, h⟩
      obtain ⟨p, hp, e⟩ := List.mem_map.mp h
      refine ⟨p.2, (to_iff hz ok).mp ?_⟩
      rw [← e]
      exact (F.mem p.1 p.2).mp hp
    · rintro ⟨d, hd⟩
      have ok := reach_ok hz hd.1
      exact ⟨ok, List.mem_map.mpr ⟨_, (F.mem _ d).mpr ((to_iff hz ok).mpr hd), rfl⟩⟩
  rw [this, List.length_map, List.length_map]
theorem farthest_D {M b : Nat} (top : ∀ p ∈ D, p.2 ≤ M) (hb : b ∈ (D.filter fun p => p.2 == M).map fun p => code z.row ^^^ p.1) (hmin : ∀ c ∈ (D.filter fun p => p.2 == M).map (fun p => code z.row ^^^ p.1), b ≤ c) :
    (step z .farthest).2 = Uw80.ints ([M, (D.filter fun p => p.2 == M).length] ++ rowOf n b) := by
  have hL : ∀ x ∈ (D.filter fun p => p.2 == M).map (·.1), x < 2 ^ n := fun x hx => by
    obtain ⟨p, hp, rfl⟩ := List.mem_map.mp hx
    exact D_lt hz F p (List.mem_filter.mp hp).1
  have nd0 : ((D.filter fun p => p.2 == M).map (·.1)).Nodup := F.nd.sublist (List.filter_sublist.map _)
  obtain ⟨nd, mem⟩ := rows_mem hz hL nd0
  have inL : ∀ e, e ∈ (D.filter fun p => p.2 == M).map (·.1) ↔ Dist (nbX (fsOf z.mode z.k n)) 0 e M := by
    intro e
    rw [List.mem_map]
    constructor
    · rintro ⟨p, hp, rfl⟩
      obtain ⟨h1, h2⟩ := List.mem_filter.mp hp
      have := (F.mem p.1 p.2).mp h1
      rw [beq_iff_eq.mp h2] at this
      exact this
    · intro h
      exact ⟨(e, M), List.mem_filter.mpr ⟨(F.mem e M).mpr h, beq_iff_eq.mpr rfl⟩, rfl⟩
  have memD : ∀ r, r ∈ ((D.filter fun p => p.2 == M).map (·.1)).map (fun x => rowOf n (code z.row ^^^ x)) ↔ Dist (nbR z.mode z.k) z.row r M := by
    intro r
    rw [mem, inL]
    constructor
    · rintro ⟨ok, h⟩; exact (to_iff hz ok).mp h
    · intro h
      have ok := reach_ok hz h.1
      exact ⟨ok, (to_iff hz ok).mpr h⟩
  obtain ⟨p, hp, rfl⟩ := List.mem_map.mp hb
  have lt : code z.row ^^^ p.1 < 2 ^ n := Nat.xor_lt_two_pow hz.lt (hL p.1 (List.mem_map.mpr ⟨p, hp, rfl⟩))
  have res := farthest_is hz (D := M) (b := rowOf n (code z.row ^^^ p.1)) nd memD (fun r h => ?_) (List.mem_map.mpr ⟨p.1, List.mem_map.mpr ⟨p, hp, rfl⟩, rfl⟩) (fun r hr => ?_)
  · rw [res, List.length_map, List.length_map]
  · have ok := reach_ok hz h.1
    have := top _ ((F.mem _ (M + 1)).mpr ((to_iff hz ok).mpr h))
    have this : M + 1 ≤ M := this
    omega
  · obtain ⟨x, hx, rfl⟩ := List.mem_map.mp hr
    obtain ⟨q, hq, rfl⟩ := List.mem_map.mp hx
    rw [code_rowOf lt, code_rowOf (Nat.xor_lt_two_pow hz.lt (hL _ hx))]
    exact hmin _ (List.mem_map.mpr ⟨q, hq, rfl⟩)
end
end Cm
section
set_option Elab.async false
set_option linter.all false
set_option maxRecDepth 100000
/-! THE HAND LAYER, for ints, bools, texts, own classes, lists, tuples, dicts, comprehensions, walks over dicts, enumerate, zip, reversed, texts, calls, loops. Paste it whole ahead of your own text; what your proof does not reach may be deleted. -/
namespace L2
open PySem PySem.Spec PyProof.Rows
/-- a key: an int or a str -/
abbrev Key := Sum Int Str
def keyIs : Key → Value → Bool
  | .inl k, v => Value.isInt k v
  | .inr x, v => Value.isStrOf x v
def keyH (w : World) : Key → Int
  | .inl k => hashInt k
  | .inr x => hashStr w x
theorem keyIs_shape : ∀ {k : Key} {v : Value}, keyIs k v = true → (∃ i t, k = Sum.inl i ∧ v = Value.int i t) ∨ (∃ x t, k = Sum.inr x ∧ v = Value.str x t)
  | .inl i, v, h => by
    obtain ⟨t, e⟩ := Value.isInt_shape (k := i) (v := v) h
    exact .inl ⟨i, t, rfl, e⟩
  | .inr x, v, h => by
    obtain ⟨t, e⟩ := Value.isStrOf_shape (x := x) (v := v) h
    exact .inr ⟨x, t, rfl, e⟩
theorem keyIs_int (i : Int) (t : Tok) : keyIs (.inl i) (.int i t) = true := by simp [keyIs, Value.isInt]
theorem keyIs_str (x : Str) (t : Tok) : keyIs (.inr x) (.str x t) = true := by simp [keyIs, Value.isStrOf]
theorem key_ll (a b : Int) : decide ((Sum.inl a : Key) = Sum.inl b) = (a == b) := by
  by_cases e : a = b
  · subst e; simp
  · have h : ¬ (Sum.inl a : Key) = Sum.inl b := fun q => e (Sum.inl.inj q)
    rw [decide_eq_false h]
    exact (beq_eq_false_iff_ne.mpr e).symm
theorem key_rr (a b : Str) : decide ((Sum.inr a : Key) = Sum.inr b) = decide (a = b) := by
  by_cases e : a = b
  · subst e; simp
  · have h : ¬ (Sum.inr a : Key) = Sum.inr b := fun q => e (Sum.inr.inj q)
    rw [decide_eq_false h, decide_eq_false e]
theorem key_lr (a : Int) (b : Str) : decide ((Sum.inl a : Key) = Sum.inr b) = false := decide_eq_false (fun q => nomatch q)
theorem key_rl (a : Str) (b : Int) : decide ((Sum.inr a : Key) = Sum.inl b) = false := decide_eq_false (fun q => nomatch q)
def mixKind (prog : Program) (w : World) : PySem.KeyKind prog w Key where
  is := keyIs
  hash := keyH w
  inj := fun v a b ha hb => by
    rcases keyIs_shape ha with ⟨i, t, rfl, rfl⟩ | ⟨x, t, rfl, rfl⟩
    · rcases keyIs_shape hb with ⟨j, u, rfl, e⟩ | ⟨y, u, rfl, e⟩
      · injection e with e1 _; rw [e1]
      · exact nomatch e
    · rcases keyIs_shape hb with ⟨j, u, rfl, e⟩ | ⟨y, u, rfl, e⟩
      · exact nomatch e
      · injection e with e1 _; rw [e1]
  byValue := fun k v h => by
    rcases keyIs_shape h with ⟨i, t, rfl, rfl⟩ | ⟨x, t, rfl, rfl⟩ <;> rfl
  pyHash := fun hv h => by
    rcases keyIs_shape hv with ⟨i, t, rfl, rfl⟩ | ⟨x, t, rfl, rfl⟩
    · exact wpAny_pyHash_int h
    · exact wpAny_pyHash_str h
  eqBool := fun hu hv h => by
    rcases keyIs_shape hu with ⟨i, t, rfl, rfl⟩ | ⟨x, t, rfl, rfl⟩
    · rcases keyIs_shape hv with ⟨j, u, rfl, rfl⟩ | ⟨y, u, rfl, rfl⟩
      · rw [key_ll] at h; exact wpAny_eqBool_int h
      · rw [key_lr] at h; exact SeqAt.EqAt.int_str i t y u _ _ _ _ h
    · rcases keyIs_shape hv with ⟨j, u, rfl, rfl⟩ | ⟨y, u, rfl, rfl⟩
      · rw [key_rl] at h; exact SeqAt.EqAt.str_int x t j u _ _ _ _ h
      · rw [key_rr] at h; exact wpAny_eqBool_str h
  «strs» := fun k x t v h => by
    rcases keyIs_shape h with ⟨i, u, rfl, e⟩ | ⟨y, u, rfl, e⟩
    · exact nomatch e
    · injection e with e1 _
      subst e1
      cases v <;> rfl
theorem mixKind_int (prog : Program) (w : World) (i : Int) (t : Tok) : (mixKind prog w).is (.inl i) (.int i t) = true := keyIs_int i t
theorem mixKind_str (prog : Program) (w : World) (x : Str) (t : Tok) : (mixKind prog w).is (.inr x) (.str x t) = true := keyIs_str x t
end L2
namespace L2
open PySem PySem.Spec PyProof.Rows
/-- a value, without the heap -/
inductive V where
  | non | bl (b : Bool) | int (i : Int) | str (x : Str) | byt (b : Array UInt8) | flt (b : UInt64) | ref (a : Addr) | ty (n : String)
  deriving DecidableEq
def RelV : V → Value → Prop
  | .non, u => u = Value.none
  | .bl b, u => u = Value.bool b
  | .int i, u => ∃ t, u = Value.int i t
  | .str x, u => ∃ t, u = Value.str x t
  | .byt b, u => ∃ t, u = Value.bytes b t
  | .flt b, u => ∃ t, u = Value.float b t
  | .ref a, u => u = Value.ref a
  | .ty n, u => u = Value.type n
abbrev Vals : List V → List Value → Prop := Paired RelV
theorem Vals.length {xs : List V} {us : List Value} (r : Vals xs us) : xs.length = us.length := Paired.length r
theorem Vals.get : ∀ {xs : List V} {us : List Value} {i : Nat} {x : V}, Vals xs us → xs[i]? = some x → ∃ u, us[i]? = some u ∧ RelV x u
  | _, _, _, _, .nil, e => by simp at e
  | _, _, 0, _, .cons r _, e => by simp at e; subst e; exact ⟨_, rfl, r⟩
  | _, _, i + 1, x, .cons _ t, e => by
    obtain ⟨u, h1, h2⟩ := Vals.get (i := i) (x := x) t (by simpa using e)
    exact ⟨u, by simpa using h1, h2⟩
theorem Vals.append : ∀ {xs ys : List V} {us ws : List Value}, Vals xs us → Vals ys ws → Vals (xs ++ ys) (us ++ ws)
  | _, _, _, _, .nil, s => s
  | _, _, _, _, .cons r t, s => .cons r (Vals.append t s)
theorem Vals.take : ∀ {xs : List V} {us : List Value} (n : Nat), Vals xs us → Vals (xs.take n) (us.take n)
  | _, _, 0, _ => .nil
  | _, _, _ + 1, .nil => .nil
  | _, _, n + 1, .cons r t => .cons r (Vals.take n t)
theorem Vals.drop : ∀ {xs : List V} {us : List Value} (n : Nat), Vals xs us → Vals (xs.drop n) (us.drop n)
  | _, _, 0, r => r
  | _, _, _ + 1, .nil => .nil
  | _, _, n + 1, .cons _ t => Vals.drop n t
def RelO : Option V → Option Value → Prop
  | some v, some u => RelV v u
  | none, none => True
  | _, _ => False
def KV {κ : Type} : List (κ × V) → List (κ × Value) → Prop := Paired fun (p : κ × V) (q : κ × Value) => p.1 = q.1 ∧ RelV p.2 q.2
/-- a key of a dict (00_mix): an int or a text -/
def kV : Key → V
  | .inl i => .int i
  | .inr x => .str x
/-- what stands at a tracked address -/
inductive HO where
  /-- a list -/
  | lst (xs : List V)
  /-- a tuple (never changes) -/
  | tup (xs : List V)
  /-- a dict whose keys are ints and texts; one whose keys are tuples of ints and texts (the empty one is both) -/
  | dK (kvs : List (Key × V)) | dT (kvs : List (List Key × V))
  /-- a set of ints: its members, its size -/
  | set (S : Int → Bool) (n : Nat)
  /-- an instance of the class at C, its dict at dx, its attributes -/
  | ins (C dx : Addr) (fs : List (Str × V))
  /-- the dict of the instance at x -/
  | own (x : Addr)
  /-- the dict of an exception -/
  | xd (fs : List (Str × V))
  /-- a bound method, f of x -/
  | met (f x : Addr)
  /-- a range object lo, lo + 1, .. below hi -/
  | rng (lo hi : Int)
  /-- a thing that is known to the object (the script; a dict while a loop walks it): read, never written while it is so -/
  | frz (o : Obj) (u : HO)
  /-- a code object's table -/
  | tbl (ps : Array Value)
  /-- any other thing, by what is true of its one object (a def of one's own: SetO a S n := HO.ext fun h => ..) -/
  | ext (φ : Heap → Prop)
abbrev Hp := Addr → Option HO
def upd (H : Hp) (a : Addr) (o : HO) : Hp := fun b => if b = a then some o else H b
theorem upd_same {H : Hp} {a : Addr} {o : HO} : upd H a o a = some o := by unfold upd; rw [if_pos rfl]
theorem upd_ne {H : Hp} {a b : Addr} {o : HO} (h : b ≠ a) : upd H a o b = H b := by unfold upd; rw [if_neg h]
theorem upd_upd {H : Hp} {a : Addr} {o u : HO} : upd (upd H a o) a u = upd H a u := by
  funext b; unfold upd; split <;> rfl
/-- two objects of different content stand apart -/
theorem ne_of {H : Hp} {a b : Addr} {o u : HO} (h : H a = some o) (h' : H b = some u) (d : o ≠ u) : a ≠ b := by
  intro e; subst e; rw [h] at h'; exact d (Option.some.inj h')
theorem ne_of_none {H : Hp} {a b : Addr} {o : HO} (h : H a = some o) (h' : H b = none) : a ≠ b := by
  intro e; subst e; rw [h] at h'; cases h'
section
variable (P : Program) (w : World)
def ObjOk (H : Hp) (h : Heap) (a : Addr) : HO → Prop
  | .lst xs => xs.length ≤ sizeLine ∧ ∃ (its : List Value) (n : Nat), Vals xs its ∧ h.get? a = some { cls := .type "list", data := .seq its.toArray n }
  | .tup xs => xs.length ≤ sizeLine ∧ ∃ its : List Value, Vals xs its ∧ IsTup h a its.toArray
  | .dK kvs => kvs.length ≤ sizeLine ∧ (a == sysModules) = false ∧ ∃ vs, KV kvs vs ∧ h.DictOf (mixKind P w) a vs
  | .dT kvs => kvs.length ≤ sizeLine ∧ (a == sysModules) = false ∧ ∃ xs : List (List Key × Addr × Value),
      Paired (fun (p : List Key × V) (q : List Key × Addr × Value) => p.1 = q.1 ∧ H q.2.1 = some (.tup (p.1.map kV)) ∧ RelV p.2 q.2.2) kvs xs ∧
      ∃ o es ep, h.get? a = some o ∧ o.ExactDict ∧ o.data = .dict es ep ∧ es.toList = xs.map (entryOfKey (tupleKind (mixKind P w))) ∧ (xs.map (·.1)).Nodup
  | .set S n => h.SetOf (intKind P w) a S n
  | .ins C dx fs => H dx = some (.own a) ∧ fs.length ≤ 1000 ∧ dx ≠ a ∧ h.get? a = some (PySem.W.instObj C dx) ∧
      ∃ mA, h.Ns1 dx mA ∧ (∀ f, RelO (fs.lookup f) (mA f)) ∧ PySem.Within mA (fs.map (·.1))
  | .own _ => ∃ o, h.get? a = some o
  | .xd fs => ∃ mA, h.Ns1 a mA ∧ ∀ f, RelO (fs.lookup f) (mA f)
  | .rng lo hi => ∃ t u v, h.get? a = some { cls := .type "range", data := .fields #[.int lo t, .int hi u, .int 1 v] }
  | .frz o u => h.get? a = some o ∧ ObjOk H h a u
  | .tbl ps => h.get? a = some { cls := .none, data := .fields ps }
  | .met f x => h.get? a = some (PySem.W.methodObj (.ref f) (.ref x))
  | .ext φ => φ h ∧ (∃ o, h.get? a = some o) ∧ ∀ h1 h2 : Heap, φ h1 → (∀ o, h1.get? a = some o → h2.get? a = some o) → φ h2
/-- the abstract heap is held -/
def HOk (H : Hp) (h : Heap) : Prop := ∀ a o, H a = some o → ObjOk P w H h a o
end
section
variable {P : Program} {w : World} {H H' : Hp} {h h' : Heap} {a : Addr} {o : HO}
theorem ObjOk.lt (x : ObjOk P w H h a o) : a < h.objs.size := by
  cases o with
  | lst xs => obtain ⟨_, _, _, _, e⟩ := x; exact Heap.lt_size e
  | tup xs => obtain ⟨_, _, _, p⟩ := x; exact p.lt
  | dK kvs => obtain ⟨_, _, _, _, o, _, _, e, _⟩ := x; exact Heap.lt_size e
  | dT kvs => obtain ⟨_, _, _, _, o, _, _, e, _⟩ := x; exact Heap.lt_size e
  | set S n => obtain ⟨o, _, _, _, e, _⟩ := x; exact Heap.lt_size e
  | ins C dx fs => obtain ⟨_, _, _, e, _⟩ := x; exact Heap.lt_size e
  | own y => obtain ⟨_, e⟩ := x; exact Heap.lt_size e
  | xd fs => obtain ⟨_, ⟨_, _, _, e, _⟩, _⟩ := x; exact Heap.lt_size e
  | rng lo hi => obtain ⟨_, _, _, e⟩ := x; exact Heap.lt_size e
  | frz ob u => obtain ⟨e, _⟩ := x; exact Heap.lt_size e
  | tbl ps => exact Heap.lt_size (show h.get? a = some _ from x)
  | met f y => exact Heap.lt_size (show h.get? a = some _ from x)
  | ext φ => obtain ⟨_, ⟨_, e⟩, _⟩ := x; exact Heap.lt_size e
theorem Paired.mapP {α β : Type} {F G : α → β → Prop} : ∀ {l₁ : List α} {l₂ : List β}, Paired F l₁ l₂ → (∀ a b, F a b → G a b) → Paired G l₁ l₂
  | _, _, .nil, _ => .nil
  | _, _, .cons r t, f => .cons (f _ _ r) (Paired.mapP t f)
/-- what an object's description leans on: its own object, its own dict, the tuples -/
theorem ObjOk.stay (x : ObjOk P w H h a o) (k : ∀ b u, (b = a ∨ H b = some (.own a)) → h.get? b = some u → h'.get? b = some u)
    (ho : ∀ b, H b = some (.own a) → H' b = some (.own a)) (ht : ∀ b xs, H b = some (.tup xs) → H' b = some (.tup xs)) : ObjOk P w H' h' a o := by
  induction o with
  | lst xs => obtain ⟨z, its, n, r, e⟩ := x; exact ⟨z, its, n, r, k _ _ (.inl rfl) e⟩
  | tup xs => obtain ⟨z, its, r, ob, e, c⟩ := x; exact ⟨z, its, r, ob, k _ _ (.inl rfl) e, c⟩
  | dK kvs => obtain ⟨z, y, vs, r, ob, es, ep, e, c⟩ := x; exact ⟨z, y, vs, r, ob, es, ep, k _ _ (.inl rfl) e, c⟩
  | dT kvs =>
    obtain ⟨z, y, xs, r, ob, es, ep, e, c⟩ := x
    exact ⟨z, y, xs, Paired.mapP r fun p q z => ⟨z.1, ht _ _ z.2.1, z.2.2⟩, ob, es, ep, k _ _ (.inl rfl) e, c⟩
  | set S n => obtain ⟨ob, es, ep, t, e, c⟩ := x; exact ⟨ob, es, ep, t, k _ _ (.inl rfl) e, c⟩
  | ins C dx fs =>
    obtain ⟨d, z, ne, e, mA, ⟨od, es, ep, e2, c⟩, r⟩ := x
    exact ⟨ho _ d, z, ne, k _ _ (.inl rfl) e, mA, ⟨od, es, ep, k _ _ (.inr d) e2, c⟩, r⟩
  | own y => obtain ⟨ob, e⟩ := x; exact ⟨ob, k _ _ (.inl rfl) e⟩
  | xd fs => obtain ⟨mA, ⟨od, es, ep, e, c⟩, r⟩ := x; exact ⟨mA, ⟨od, es, ep, k _ _ (.inl rfl) e, c⟩, r⟩
  | rng lo hi => obtain ⟨t, u, v, e⟩ := x; exact ⟨t, u, v, k _ _ (.inl rfl) e⟩
  | frz ob u ih => obtain ⟨e, q⟩ := x; exact ⟨k _ _ (.inl rfl) e, ih q⟩
  | tbl ps =>
    have e : h.get? a = some { cls := .none, data := .fields ps } := x
    show h'.get? a = some { cls := .none, data := .fields ps }
    exact k a _ (.inl rfl) e
  | met f y =>
    have e : h.get? a = some (PySem.W.methodObj (.ref f) (.ref y)) := x
    show h'.get? a = some (PySem.W.methodObj (.ref f) (.ref y))
    exact k a _ (.inl rfl) e
  | ext φ => obtain ⟨p, ⟨o, e⟩, st⟩ := x; exact ⟨st _ _ p fun o q => k _ _ (.inl rfl) q, ⟨o, k _ _ (.inl rfl) e⟩, st⟩
theorem HOk.lt (x : HOk P w H h) (e : H a = some o) : a < h.objs.size := (x a o e).lt
theorem HOk.fresh (x : HOk P w H h) (e : h.objs.size ≤ a) : H a = none := by
  cases q : H a with
  | none => rfl
  | some u => exact absurd (Nat.lt_of_lt_of_le (x.lt q) e) (Nat.lt_irrefl _)
/-- every object of the heap is kept -/
theorem HOk.kept (x : HOk P w H h) (k : ∀ b u, h.get? b = some u → h'.get? b = some u) : HOk P w H h' := fun a o e =>
  (x a o e).stay (fun b u _ q => k b u q) (fun _ q => q) fun _ _ q => q
/-- a new object is laid and tracked -/
theorem HOk.laid (x : HOk P w H h) (k : ∀ b u, h.get? b = some u → h'.get? b = some u) (hp : h.objs.size ≤ a) (new : ObjOk P w (upd H a o) h' a o) : HOk P w (upd H a o) h' := fun b u e => by
  have hn := x.fresh hp
  by_cases hb : b = a
  · subst hb; rw [upd_same] at e; cases e; exact new
  · rw [upd_ne hb] at e
    exact (x b u e).stay (fun c v _ q => k c v q) (fun c q => by rw [upd_ne (ne_of_none q hn)]; exact q) fun c xs q => by rw [upd_ne (ne_of_none q hn)]; exact q
end
/-- what may be read as u: it is u, or a known u -/
def Rd (H : Hp) (a : Addr) (u : HO) : Prop := H a = some u ∨ ∃ o, H a = some (.frz o u)
theorem Rd.ok {P : Program} {w : World} {H : Hp} {h : Heap} {a : Addr} {u : HO} (r : Rd H a u) (x : HOk P w H h) : ObjOk P w H h a u := by
  rcases r with r | ⟨o, r⟩
  · exact x a u r
  · obtain ⟨_, q⟩ := x a _ r
    exact q
/-- what may be written -/
def Mut : Option HO → Prop
  | some (.lst _) => True
  | some (.dK _) => True
  | some (.dT _) => True
  | some (.set _ _) => True
  | some (.ins _ _ _) => True
  | some (.ext _) => True
  | _ => False
section
variable {P : Program} {w : World} {H : Hp} {h h' : Heap} {x e : Addr} {o' : HO}
/-- the object at e is changed: x itself, or the dict of the instance x -/
theorem HOk.write (ok : HOk P w H h) (mu : Mut (H x)) (he : e = x ∨ H e = some (.own x)) (k : ∀ b u, b ≠ e → h.get? b = some u → h'.get? b = some u) (heo : ∃ u, h'.get? e = some u)
    (new : ObjOk P w (upd H x o') h' x o') : HOk P w (upd H x o') h' := fun b u q => by
  have nown : ∀ c y, H c = some (.own y) → c ≠ x := fun c y r z => by subst z; rw [r] at mu; exact mu
  have ntup : ∀ c xs, H c = some (.tup xs) → c ≠ x := fun c xs r z => by subst z; rw [r] at mu; exact mu
  by_cases hb : b = x
  · subst hb; rw [upd_same] at q; cases q; exact new
  · rw [upd_ne hb] at q
    by_cases hbe : b = e
    · have q' : H b = some (.own x) := by
        rcases he with z | z
        · exact absurd (hbe.trans z) hb
        · rw [hbe]; exact z
      rw [q] at q'; cases q'
      obtain ⟨v, hv⟩ := heo
      exact ⟨v, by rw [hbe]; exact hv⟩
    · refine (ok b u q).stay (fun c v hc r => k c v ?_ r) (fun c r => by rw [upd_ne (nown c b r)]; exact r) fun c xs r => by rw [upd_ne (ntup c xs r)]; exact r
      rcases hc with rfl | hc
      · exact hbe
      · rintro rfl
        rcases he with z | z
        · exact nown c b hc z
        · rw [hc] at z; cases z; exact hb rfl
end
/-! ### kept unless tracked; of the frames at fs (the callers') the slots may change (an exception that passes writes there); of the records at ex (iterators) nothing is said -/
structure Un (fs ex : List Addr) (H H' : Hp) (h h' : Heap) : Prop where
  keep : ∀ b o, h.get? b = some o → H b = none → b ∉ fs → b ∉ ex → h'.get? b = some o
  slot : ∀ b o, h.get? b = some o → H b = none → b ∈ fs → b ∉ ex → ∃ sl, h'.get? b = some { o with slots := sl }
  free : ∀ b o, h.get? b = some o → H b = none → b ∉ ex → H' b = none
  there : ∀ b o, h.get? b = some o → b ∉ ex → ∃ o', h'.get? b = some o'
  tups : ∀ b xs, H b = some (.tup xs) → H' b = some (.tup xs)
  frzs : ∀ b o u, H b = some (.frz o u) → H' b = some (.frz o u)
  tbls : ∀ b ps, H b = some (.tbl ps) → ∃ more, H' b = some (.tbl (ps ++ more))
section
variable {fs fs' ex ex' : List Addr} {H H1 H2 : Hp} {h h1 h2 h' : Heap} {a x e : Addr} {o : HO}
theorem Un.any (u : Un fs ex H H1 h h1) {b : Addr} {ob : Obj} (q : h.get? b = some ob) (n : H b = none) (hx : b ∉ ex) : ∃ sl, h1.get? b = some { ob with slots := sl } := by
  by_cases hb : b ∈ fs
  · exact u.slot b ob q n hb hx
  · exact ⟨ob.slots, u.keep b ob q n hb hx⟩
theorem Un.kept (k : ∀ b u, h.get? b = some u → h'.get? b = some u) : Un fs ex H H h h' :=
  ⟨fun b ob q _ _ _ => k b ob q, fun b ob q _ _ _ => ⟨ob.slots, k b ob q⟩, fun _ _ _ n _ => n, fun b ob q _ => ⟨ob, k b ob q⟩, fun _ _ q => q, fun _ _ _ q => q, fun _ ps q => ⟨#[], by rw [q]; simp⟩⟩
theorem Un.refl : Un fs ex H H h h := Un.kept fun _ _ q => q
theorem Un.laid (k : ∀ b u, h.get? b = some u → h'.get? b = some u) (hp : h.objs.size ≤ a) (hn : H a = none) : Un fs ex H (upd H a o) h h' where
  keep := fun b u q _ _ _ => k b u q
  slot := fun b u q _ _ _ => ⟨u.slots, k b u q⟩
  free := fun b u q n _ => by rw [upd_ne (Nat.ne_of_lt (Nat.lt_of_lt_of_le (Heap.lt_size q) hp))]; exact n
  there := fun b u q _ => ⟨u, k b u q⟩
  tups := fun b xs q => by rw [upd_ne (ne_of_none q hn)]; exact q
  frzs := fun b u xs q => by rw [upd_ne (ne_of_none q hn)]; exact q
  tbls := fun b ps q => ⟨#[], by rw [upd_ne (ne_of_none q hn), q]; simp⟩
theorem Un.write (mu : Mut (H x)) (he : e = x ∨ H e = some (.own x)) (k : ∀ b u, b ≠ e → h.get? b = some u → h'.get? b = some u) (heo : ∃ u, h'.get? e = some u) : Un fs ex H (upd H x o) h h' := by
  have hx : ∀ b, H b = none → b ≠ x := fun b n z => by subst z; rw [n] at mu; exact mu
  have hb : ∀ b, H b = none → b ≠ e := fun b n z => by
    subst z
    rcases he with r | r
    · exact hx b n r
    · rw [n] at r; cases r
  have hm : ∀ b u, H b = some u → ¬ Mut (some u) → b ≠ x := fun b u q nm z => by subst z; rw [q] at mu; exact nm mu
  refine ⟨fun b u q n _ _ => k b u (hb b n) q, fun b u q n _ _ => ⟨u.slots, k b u (hb b n) q⟩, fun b u q n _ => by rw [upd_ne (hx b n)]; exact n, fun b u q _ => ?_,
    fun b xs q => by rw [upd_ne (hm b _ q fun z => z)]; exact q, fun b u xs q => by rw [upd_ne (hm b _ q fun z => z)]; exact q, fun b ps q => ⟨#[], by rw [upd_ne (hm b _ q fun z => z), q]; simp⟩⟩
  by_cases hbe : b = e
  · subst hbe; exact heo
  · exact ⟨u, k b u hbe q⟩
end
/-! ### the heap without what is tracked -/
def trk (h : Heap) (H : Hp) : List Addr := (List.range h.objs.size).filter fun a => (H a).isSome
def hidT (h : Heap) (H : Hp) : Heap := PySem.W.hideAll h (trk h H)
theorem hidT_size (h : Heap) (H : Hp) : (hidT h H).objs.size = h.objs.size := PySem.W.hideAll_size _ _
theorem hidT_get {h : Heap} {H : Hp} {b : Addr} {o : Obj} (e : h.get? b = some o) (n : H b = none) : (hidT h H).get? b = some o :=
  PySem.W.hideAll_get _ e fun hm => by
    have q : (H b).isSome = true := (List.mem_filter.mp hm).2
    rw [n] at q; simp at q
theorem of_hidT {h : Heap} {H : Hp} {b : Addr} {o : Obj} (e : (hidT h H).get? b = some o) : h.get? b = some o ∧ H b = none := by
  have e' : h.get? b = some o := PySem.W.of_hideAll (trk h H) e
  refine ⟨e', ?_⟩
  cases q : H b with
  | none => rfl
  | some x =>
    have hm : b ∈ trk h H := List.mem_filter.mpr ⟨List.mem_range.mpr (Heap.lt_size e'), by simp [q]⟩
    have z : (hidT h H).get? b = none := PySem.W.hideAll_none (trk h H) hm
    rw [z] at e; cases e
/-! ### OpenK's ledger, filled with every new object but one -/
end L2
namespace L2
open PySem PySem.Spec PyProof.Rows
/-- the module's facts, over the base: the heap at the law's entry without what is tracked there -/
structure Mod (K : PySem.W.Frag) (mg : Str → Option Value) (base : Heap) : Prop where
  kin : K.In base
  glob : base.Ns mainGlobals mg
  blt : ∃ mb, base.Ns builtinsNs mb ∧ ∀ x : Str, x ≠ "__name__" → mb x = bootBuiltins x
  nolimit : base.NoLimit
/-- the context: a def's body (or a comprehension's block) running. base: fixed through the whole law; s₀, H₀: the entry; outer: the frames whose slots others may change (a def's callers); stack: all frames that run;
   ex: iterators that were made ahead of the entry and are walked here (a comprehension's); fn: the names whose cells were made at the entry (a def: all; a comprehension's block: its own); calm: not within an except suite; pn: pins that every state bears; xe: what is wanted of an exception that leaves the code -/
structure Cx where
  prog : Program
  w : World
  K : PySem.W.Frag
  mg : Str → Option Value
  base : Heap
  A : Around
  N : List Str
  s_0 : Shared
  H_0 : Hp
  env : Env
  outer : List Env
  stack : List Env
  ex : List Addr
  fn : Str → Bool
  calm : Bool
  pn : List (Addr × Obj)
  xe : Value → Shared → Prop
/-- the callers' frames -/
def frs (l : List Env) : List Addr := l.filterMap (·.frame)
abbrev Cx.fs (X : Cx) : List Addr := frs X.outer
def Vis (sc : Scope) (x : Str) : Prop := sc.names.lookup x = some .local ∨ sc.names.lookup x = some .cell ∨ sc.names.lookup x = some .free
def Loc (sc : Scope) (x : Str) : Prop := sc.names.lookup x = some .local ∨ sc.names.lookup x = some .cell
def Look (env : Env) (h : Heap) (m : Str → Option Value) (x : Str) (u : Value) : Prop :=
  (env.kindOf x = some .local ∧ m x = some u) ∨ ((env.kindOf x = some .cell ∨ env.kindOf x = some .free) ∧ ∃ c, env.cells.lookup x = some c ∧ h.IsCell c (some u))
structure Cx.Ok (X : Cx) : Prop where
  mod : Mod X.K X.mg X.base
  kind : X.env.scope.kind = .function
  glob : X.env.globals = mainGlobals
  blt : X.env.builtins = builtinsNs
  above : X.s_0.heap.objs.size ≤ X.env.locals
  inj : ∀ x y c, X.env.cells.lookup x = some c → X.env.cells.lookup y = some c → x = y
  has : ∀ x, (X.env.kindOf x = some .cell ∨ X.env.kindOf x = some .free) → ∃ c, X.env.cells.lookup x = some c
  cab : ∀ x c, X.fn x = true → X.env.cells.lookup x = some c → X.s_0.heap.objs.size ≤ c
  hd : X.calm = true → X.A.handled = none
  frames : X.A.frames = some X.stack
  stk : X.stack = X.outer ∨ (X.stack = X.env :: X.outer ∧ X.env.frame = some X.env.locals)
  exf : ∀ b ∈ X.ex, b ≠ X.env.locals ∧ ∀ x c, X.env.cells.lookup x = some c → c ≠ b
  bs : ∀ b o, X.base.get? b = some o → X.s_0.heap.get? b = some o ∧ X.H_0 b = none
  bsz : X.base.objs.size ≤ X.s_0.heap.objs.size
  noex : ∀ b o, X.base.get? b = some o → b ∉ X.ex
  exfs : ∀ b ∈ X.ex, b ∉ X.fs
  funs : X.s_0.heap.FunFrames X.base X.outer
  frf : ∀ b ∈ X.fs, X.H_0 b = none
structure Inv (X : Cx) (pins : List (Addr × Obj)) (σ : List (Option V)) (H : Hp) (s : Shared) : Prop where
  ok : X.Ok
  os : s.os = X.s_0.os
  bare : AllBare s.gens
  base : Un X.fs X.ex X.H_0 H X.s_0.heap s.heap
  loc : ∃ m, s.heap.Ns X.env.locals m ∧ ∀ (i : Nat) (x : Str) (v : V), X.N[i]? = some x → σ[i]? = some (some v) → Vis X.env.scope x → ∃ u, RelV v u ∧ Look X.env s.heap m x u
  cell : ∀ x c, X.env.cells.lookup x = some c → ∃ v, s.heap.IsCell c v
  free : H X.env.locals = none
  freeC : ∀ x c, X.env.cells.lookup x = some c → H c = none
  pin : ∀ p ∈ X.pn ++ pins, s.heap.get? p.1 = some p.2 ∧ H p.1 = none ∧ p.1 ≠ X.env.locals ∧ p.1 ∉ X.fs ∧ ∀ v, p.2.data ≠ .cell v
  hok : HOk X.prog X.w H s.heap
  len : σ.length = X.N.length
section
variable {X : Cx} {pins : List (Addr × Obj)} {σ : List (Option V)} {H H' : Hp} {s : Shared} {h' : Heap}
theorem Cx.Ok.nofr (ok : X.Ok) {b : Addr} {o : Obj} (e : X.base.get? b = some o) : b ∉ X.fs := fun hb => by
  have := (ok.funs.mem hb).1
  rw [e] at this; cases this
theorem Inv.bs (I : Inv X pins σ H s) : ∀ b o, X.base.get? b = some o → s.heap.get? b = some o ∧ H b = none := fun b o e =>
  ⟨I.base.keep b o (I.ok.bs b o e).1 (I.ok.bs b o e).2 (I.ok.nofr e) (I.ok.noex b o e), I.base.free b o (I.ok.bs b o e).1 (I.ok.bs b o e).2 (I.ok.noex b o e)⟩
theorem Inv.bk (I : Inv X pins σ H s) : ∀ b o, X.base.get? b = some o → s.heap.get? b = some o := fun b o e => (I.bs b o e).1
theorem Inv.mod (I : Inv X pins σ H s) : Mod X.K X.mg X.base := I.ok.mod
theorem Inv.kIn (I : Inv X pins σ H s) : X.K.In s.heap := I.ok.mod.kin.keeps I.bk
/-- the frame over the base: for OpenK's rules (K.In X.base is I.mod.kin) -/
theorem Inv.fr (I : Inv X pins σ H s) : ∃ m, Fr X.base X.env.locals s.heap m :=
  let ⟨m, hn, _⟩ := I.loc
  ⟨m, hn, I.bk, Nat.le_trans I.ok.bsz I.ok.above⟩
theorem Inv.lt (I : Inv X pins σ H s) : X.env.locals < s.heap.objs.size := let ⟨_, hn, _⟩ := I.loc; hn.lt
theorem Inv.sz (I : Inv X pins σ H s) : X.s_0.heap.objs.size ≤ s.heap.objs.size := Nat.le_trans I.ok.above (Nat.le_of_lt I.lt)
theorem Inv.nofs (I : Inv X pins σ H s) {a : Addr} (h : s.heap.objs.size ≤ a) : a ∉ X.fs := fun hb => by
  obtain ⟨_, o, ho, _⟩ := I.ok.funs.mem hb
  exact absurd (Nat.lt_of_lt_of_le (Heap.lt_size ho) (Nat.le_trans I.sz h)) (Nat.lt_irrefl _)
theorem Inv.cne (I : Inv X pins σ H s) : ∀ x c, X.env.cells.lookup x = some c → c ≠ X.env.locals := fun x c e z => by
  obtain ⟨v, o, ho, hd⟩ := I.cell x c e
  obtain ⟨m, ⟨o', es, ep, ho', hd', _⟩, _⟩ := I.loc
  rw [z, ho'] at ho; cases ho; rw [hd'] at hd; cases hd
theorem Inv.funs (I : Inv X pins σ H s) : s.heap.FunFrames X.base X.outer := by
  have all : ∀ (l : List Env), (∀ b ∈ frs l, b ∈ X.fs) → X.s_0.heap.FunFrames X.base l → s.heap.FunFrames X.base l := by
    intro l
    induction l with
    | nil => intro _ _; trivial
    | cons env r ih =>
      intro hs hl
      obtain ⟨hk, ⟨L, o, hf, hn, ho, hd⟩, hr⟩ := hl
      have hL : L ∈ X.fs := hs L (by unfold frs; rw [List.filterMap_cons, hf]; exact List.mem_cons_self)
      obtain ⟨sl, e⟩ := I.base.slot L o ho (I.ok.frf L hL) hL fun z => I.ok.exfs L z hL
      exact ⟨hk, ⟨L, _, hf, hn, e, hd⟩, ih (fun b hb => hs b (by unfold frs; rw [List.filterMap_cons, hf]; exact List.mem_cons_of_mem _ hb)) hr⟩
  exact all X.outer (fun _ hb => hb) I.ok.funs
/-- the frames that run, for a call -/
theorem Inv.stack (I : Inv X pins σ H s) : s.heap.FunFrames X.base X.stack := by
  rcases I.ok.stk with e | ⟨e, hf⟩
  · rw [e]; exact I.funs
  · rw [e]
    obtain ⟨m, hn, _⟩ := I.loc
    refine .cons (by rw [I.ok.kind]; decide) hf hn ?_ I.funs
    exact Heap.get?_none_of_le (Nat.le_trans I.ok.bsz I.ok.above)
theorem Inv.stkSub (I : Inv X pins σ H s) : ∀ b ∈ frs X.stack, b ∈ X.env.locals :: X.fs := fun b hb => by
  rcases I.ok.stk with e | ⟨e, hf⟩
  · rw [e] at hb; exact List.mem_cons_of_mem _ hb
  · rw [e] at hb
    unfold frs at hb
    rw [List.filterMap_cons, hf] at hb
    exact hb
theorem Inv.stkFree (I : Inv X pins σ H s) : ∀ b ∈ frs X.stack, H b = none := fun b hb => by
  rcases List.mem_cons.mp (I.stkSub b hb) with e | hb
  · rw [e]; exact I.free
  · obtain ⟨_, o, ho, _⟩ := I.ok.funs.mem hb
    exact I.base.free b o ho (I.ok.frf b hb) fun z => I.ok.exfs b z hb
/-- THE STEP: the untracked objects but the frame and the records at ch are kept (the callers' frames up to slots), the frame's map is kept, the new abstract heap is held -/
theorem Inv.step {g' : Array GenState} {t' : Nat} {d' : Drawn} {ch : List Addr} (I : Inv X pins σ H s)
    (hch : ∀ b ∈ ch, (b ∈ X.ex ∨ X.s_0.heap.objs.size ≤ b) ∧ b ≠ X.env.locals ∧ (∀ x c, X.env.cells.lookup x = some c → c ≠ b) ∧ ∀ p ∈ X.pn ++ pins, p.1 ≠ b)
    (keep : ∀ b o, b ≠ X.env.locals → b ∉ X.fs → b ∉ ch → s.heap.get? b = some o → H b = none → h'.get? b = some o)
    (slot : ∀ b o, b ≠ X.env.locals → b ∈ X.fs → b ∉ ch → s.heap.get? b = some o → H b = none → ∃ sl, h'.get? b = some { o with slots := sl }) (free : ∀ b o, b ∉ ch → s.heap.get? b = some o → H b = none → H' b = none)
    (there : ∀ b o, b ∉ ch → s.heap.get? b = some o → ∃ o', h'.get? b = some o')
    (tups : ∀ b xs, H b = some (.tup xs) → H' b = some (.tup xs)) (frzs : ∀ b o u, H b = some (.frz o u) → H' b = some (.frz o u)) (tbls : ∀ b ps, H b = some (.tbl ps) → ∃ more, H' b = some (.tbl (ps ++ more)))
    (ns : ∀ m, s.heap.Ns X.env.locals m → h'.Ns X.env.locals m) (hok : HOk X.prog X.w H' h') (hg : AllBare g') :
    Inv X pins σ H' { s with heap := h', gens := g', drawn := d', toks := t' } := by
  have neL : ∀ b o, X.s_0.heap.get? b = some o → b ≠ X.env.locals := fun b o e => Nat.ne_of_lt (Nat.lt_of_lt_of_le (Heap.lt_size e) I.ok.above)
  have neC : ∀ b o, X.s_0.heap.get? b = some o → b ∉ X.ex → b ∉ ch := fun b o e hx hb => by
    rcases (hch b hb).1 with z | z
    · exact hx z
    · exact absurd (Nat.lt_of_lt_of_le (Heap.lt_size e) z) (Nat.lt_irrefl _)
  have cellK : ∀ x c, X.env.cells.lookup x = some c → ∀ v, s.heap.IsCell c v → h'.IsCell c v := fun x c e v ⟨o, ho, hd⟩ => by
    have nch : c ∉ ch := fun z => (hch c z).2.2.1 x c e rfl
    by_cases hc : c ∈ X.fs
    · obtain ⟨sl, q⟩ := slot c o (I.cne x c e) hc nch ho (I.freeC x c e)
      exact ⟨_, q, hd⟩
    · exact ⟨o, keep c o (I.cne x c e) hc nch ho (I.freeC x c e), hd⟩
  refine ⟨I.ok, I.os, hg, ⟨fun b o e n hb hx => ?_, fun b o e n hb hx => ?_, fun b o e n hx => ?_, fun b o e hx => ?_, fun b xs e => tups b xs (I.base.tups b xs e), fun b o xs e => frzs b o xs (I.base.frzs b o xs e), fun b ps e => ?_⟩, ?_, fun x c e => ?_, ?_, fun x c e => ?_, fun p hp => ?_, hok, I.len⟩
  · exact keep b o (neL b o e) hb (neC b o e hx) (I.base.keep b o e n hb hx) (I.base.free b o e n hx)
  · obtain ⟨sl, e1⟩ := I.base.slot b o e n hb hx
    obtain ⟨sl', e2⟩ := slot b _ (neL b o e) hb (neC b o e hx) e1 (I.base.free b o e n hx)
    exact ⟨sl', e2⟩
  · obtain ⟨o', e1⟩ := I.base.there b o e hx
    exact free b o' (neC b o e hx) e1 (I.base.free b o e n hx)
  · obtain ⟨o', e1⟩ := I.base.there b o e hx
    exact there b o' (neC b o e hx) e1
  · obtain ⟨m1, e1⟩ := I.base.tbls b ps e
    obtain ⟨m2, e2⟩ := tbls b _ e1
    exact ⟨m1 ++ m2, by rw [e2, Array.append_assoc]⟩
  · obtain ⟨m, hn, hl⟩ := I.loc
    refine ⟨m, ns m hn, fun i x v e1 e2 e3 => ?_⟩
    obtain ⟨u, r, l⟩ := hl i x v e1 e2 e3
    refine ⟨u, r, ?_⟩
    rcases l with l | ⟨k, c, e, z⟩
    · exact .inl l
    · exact .inr ⟨k, c, e, cellK x c e _ z⟩
  · obtain ⟨v, z⟩ := I.cell x c e
    exact ⟨v, cellK x c e v z⟩
  · obtain ⟨m, ⟨o, _, _, ho, _⟩, _⟩ := I.loc
    exact free _ o (fun z => (hch _ z).2.1 rfl) ho I.free
  · obtain ⟨v, o, ho, hd⟩ := I.cell x c e
    exact free c o (fun z => (hch c z).2.2.1 x c e rfl) ho (I.freeC x c e)
  · obtain ⟨e, n, ne, nf, d⟩ := I.pin p hp
    have nch : p.1 ∉ ch := fun z => (hch p.1 z).2.2.2 p hp rfl
    exact ⟨keep p.1 p.2 ne nf nch e n, free p.1 p.2 nch e n, ne, nf, d⟩
/-- .. where the frame's own object is kept too -/
theorem Inv.un {t' : Nat} (I : Inv X pins σ H s) (u : Un X.fs [] H H' s.heap h') (hok : HOk X.prog X.w H' h') : Inv X pins σ H' { s with heap := h', toks := t' } := by
  obtain ⟨m, ⟨o, es, ep, ho, r⟩, _⟩ := id I.loc
  obtain ⟨sl, hL⟩ := u.any ho I.free (by simp)
  exact I.step (g' := s.gens) (d' := s.drawn) (ch := []) (fun _ z => nomatch z) (fun b o _ hb _ e n => u.keep b o e n hb (by simp)) (fun b o _ hb _ e n => u.slot b o e n hb (by simp)) (fun b o _ e n => u.free b o e n (by simp)) (fun b o _ e => u.there b o e (by simp)) u.tups u.frzs u.tbls (fun m' hm => by
    obtain ⟨o', es', ep', ho', r'⟩ := hm
    rw [ho] at ho'; cases ho'
    exact ⟨_, es', ep', hL, r'⟩) hok I.bare
/-- behind a call (or a comprehension's block): the slots of this frame may have changed too, the records at ch may have turned -/
theorem Inv.call {g' : Array GenState} {t' : Nat} {d' : Drawn} {ch : List Addr} (I : Inv X pins σ H s) (u : Un (frs X.stack) ch H H' s.heap h') (hok : HOk X.prog X.w H' h') (hg : AllBare g')
    (hch : ∀ b ∈ ch, (b ∈ X.ex ∨ X.s_0.heap.objs.size ≤ b) ∧ b ≠ X.env.locals ∧ (∀ x c, X.env.cells.lookup x = some c → c ≠ b) ∧ ∀ p ∈ X.pn ++ pins, p.1 ≠ b) :
    Inv X pins σ H' { s with heap := h', gens := g', drawn := d', toks := t' } := by
  obtain ⟨m, ⟨o, es, ep, ho, r⟩, _⟩ := id I.loc
  obtain ⟨sl, hL⟩ := u.any ho I.free fun z => (hch _ z).2.1 rfl
  exact I.step (ch := ch) hch (fun b o hL hb hc e n => u.keep b o e n (fun z => (List.mem_cons.mp (I.stkSub b z)).elim hL hb) hc) (fun b o _ _ hc e n => u.any e n hc) (fun b o hc e n => u.free b o e n hc) (fun b o hc e => u.there b o e hc) u.tups u.frzs u.tbls (fun m' hm => by
    obtain ⟨o', es', ep', ho', r'⟩ := hm
    rw [ho] at ho'; cases ho'
    exact ⟨_, es', ep', hL, r'⟩) hok hg
/-- an untracked record of ours (an iterator) has turned -/
theorem Inv.turned {t' : Nat} {it : Addr} (I : Inv X pins σ H s) (k : ∀ b o, b ≠ it → s.heap.get? b = some o → h'.get? b = some o) (hn : H it = none) (hL : it ≠ X.env.locals)
    (h1 : it ∈ X.ex ∨ X.s_0.heap.objs.size ≤ it) (h2 : ∀ x c, X.env.cells.lookup x = some c → c ≠ it) (h3 : ∀ p ∈ X.pn ++ pins, p.1 ≠ it) : Inv X pins σ H { s with heap := h', toks := t' } := by
  have nit : ∀ b u, H b = some u → b ≠ it := fun b u e z => by rw [z, hn] at e; cases e
  refine I.step (g' := s.gens) (d' := s.drawn) (ch := [it]) (fun b hb => ?_) (fun b o _ _ hc e _ => k b o (fun z => hc (by simp [z])) e) (fun b o _ _ hc e _ => ⟨o.slots, k b o (fun z => hc (by simp [z])) e⟩) (fun _ _ _ _ n => n)
    (fun b o hc e => ⟨o, k b o (fun z => hc (by simp [z])) e⟩) (fun _ _ e => e) (fun _ _ _ e => e) (fun b ps e => ⟨#[], by rw [e]; simp⟩) (fun m hm => ?_) (fun b u e => ?_) I.bare
  · have e : b = it := by simpa using hb
    subst e
    exact ⟨h1, hL, h2, h3⟩
  · obtain ⟨o, es, ep, ho, r⟩ := hm
    exact ⟨o, es, ep, k _ o (Ne.symm hL) ho, r⟩
  · refine (I.hok b u e).stay (fun c v hc q => k c v ?_ q) (fun _ q => q) fun _ _ q => q
    rcases hc with z | z
    · rw [z]; exact nit b u e
    · exact nit c _ z
theorem Inv.tok (I : Inv X pins σ H s) (t : Nat) : Inv X pins σ H { s with toks := t } := I.un (h' := s.heap) (t' := t) Un.refl I.hok
/-- all objects kept -/
theorem Inv.kept {t' : Nat} (I : Inv X pins σ H s) (k : ∀ b u, s.heap.get? b = some u → h'.get? b = some u) : Inv X pins σ H { s with heap := h', toks := t' } := I.un (Un.kept k) (I.hok.kept k)
/-- a new object laid and tracked -/
theorem Inv.laid {a : Addr} {o : HO} {t' : Nat} (I : Inv X pins σ H s) (k : ∀ b u, s.heap.get? b = some u → h'.get? b = some u) (hp : s.heap.objs.size ≤ a) (new : ObjOk X.prog X.w (upd H a o) h' a o) :
    Inv X pins σ (upd H a o) { s with heap := h', toks := t' } := I.un (Un.laid k hp (I.hok.fresh hp)) (I.hok.laid k hp new)
/-- an object written -/
theorem Inv.write {x e : Addr} {o : HO} {t' : Nat} (I : Inv X pins σ H s) (mu : Mut (H x)) (he : e = x ∨ H e = some (.own x)) (k : ∀ b u, b ≠ e → s.heap.get? b = some u → h'.get? b = some u) (heo : ∃ u, h'.get? e = some u)
    (new : ObjOk X.prog X.w (upd H x o) h' x o) : Inv X pins σ (upd H x o) { s with heap := h', toks := t' } := I.un (Un.write mu he k heo) (I.hok.write mu he k heo new)
/-- forgetting slots, pins -/
theorem Inv.weak {σ' : List (Option V)} (I : Inv X pins σ H s) (hl : σ'.length = σ.length) (w : ∀ (i : Nat) v, σ'[i]? = some (some v) → σ[i]? = some (some v)) : Inv X pins σ' H s :=
  ⟨I.ok, I.os, I.bare, I.base, let ⟨m, hn, hl'⟩ := I.loc; ⟨m, hn, fun i x v e1 e2 e3 => hl' i x v e1 (w i v e2) e3⟩, I.cell, I.free, I.freeC, I.pin, I.hok, hl.trans I.len⟩
theorem Inv.pins_of {pins' : List (Addr × Obj)} (I : Inv X pins σ H s) (h : ∀ p ∈ pins', s.heap.get? p.1 = some p.2 ∧ H p.1 = none ∧ p.1 ≠ X.env.locals ∧ p.1 ∉ X.fs ∧ ∀ v, p.2.data ≠ .cell v) : Inv X pins' σ H s :=
  ⟨I.ok, I.os, I.bare, I.base, I.loc, I.cell, I.free, I.freeC, fun p hp => (List.mem_append.mp hp).elim (fun z => I.pin p (List.mem_append_left _ z)) (h p), I.hok, I.len⟩
theorem nodup_ix {N : List Str} (hN : N.Nodup) {i j : Nat} {x : Str} (a : N[i]? = some x) (b : N[j]? = some x) : i = j := by
  obtain ⟨h1, e1⟩ := List.getElem?_eq_some_iff.mp a
  obtain ⟨h2, e2⟩ := List.getElem?_eq_some_iff.mp b
  exact (List.getElem_inj hN).mp (e1.trans e2.symm)
/-- a name is stored; what changed -/
theorem store_ok2 {M : Model} {A : Around} {E : Value → Shared → Prop} {i : Nat} {x : Str} {v : V} {u : Value} {Q : Unit → Shared → Prop} (I : Inv X pins σ H s) (hN : X.N.Nodup) (hi : X.N[i]? = some x) (hx : Loc X.env.scope x) (r : RelV v u)
    (h : ∀ s', Inv X pins (σ.set i (some v)) H s' → (∃ a, Heap.SameBut a s.heap s'.heap ∧ (a = X.env.locals ∨ X.env.cells.lookup x = some a)) → Q () s') (hf : X.fn x = true ∨ X.env.scope.names.lookup x = some .local := by first | exact .inl rfl | exact .inr rfl | assumption) : wpAny M A (storeName X.env x u) Q E s := by
  obtain ⟨m, hn, hl⟩ := id I.loc
  have hcls : (X.env.scope.kind == .class || (X.env.scope.kind == .module && X.env.locals != X.env.globals)) = false := by rw [I.ok.kind]; rfl
  have hiσ : i < σ.length := by rw [I.len]; exact (List.getElem?_eq_some_iff.mp hi).1
  have cne := I.cne
  have tracked : ∀ {a : Addr} {h' : Heap}, (∃ o, s.heap.get? a = some o ∧ H a = none) → Heap.SameBut a s.heap h' → HOk X.prog X.w H h' := fun {a h'} ha hs b ob e => by
    obtain ⟨_, _, hfree⟩ := ha
    refine (I.hok b ob e).stay (fun c w' hc q => (hs.2 c ?_).trans q) (fun _ q => q) fun _ _ q => q
    rintro rfl
    rcases hc with rfl | hc
    · rw [hfree] at e; cases e
    · rw [hfree] at hc; cases hc
  rcases hx with hk | hk
  · refine wpAny_storeName_local hk hn (fun h' hn' hs => ?_) hcls
    obtain ⟨oL, _, _, hoL, _⟩ := id hn
    refine h _ ⟨I.ok, I.os, I.bare, ⟨fun b o e n hb hx => ?_, fun b o e n hb hx => ?_, I.base.free, fun b o e hx => ?_, I.base.tups, I.base.frzs, I.base.tbls⟩, ⟨_, hn', fun j y v' e1 e2 e3 => ?_⟩, fun y c e => ?_, I.free, I.freeC, fun p hp => ?_, tracked ⟨oL, hoL, I.free⟩ hs, by simpa using I.len⟩ ⟨_, hs, .inl rfl⟩
    · exact (hs.2 b (Nat.ne_of_lt (Nat.lt_of_lt_of_le (Heap.lt_size e) I.ok.above))).trans (I.base.keep b o e n hb hx)
    · obtain ⟨sl, e1⟩ := I.base.slot b o e n hb hx
      exact ⟨sl, (hs.2 b (Nat.ne_of_lt (Nat.lt_of_lt_of_le (Heap.lt_size e) I.ok.above))).trans e1⟩
    · obtain ⟨o', e1⟩ := I.base.there b o e hx
      exact ⟨o', (hs.2 b (Nat.ne_of_lt (Nat.lt_of_lt_of_le (Heap.lt_size e) I.ok.above))).trans e1⟩
    · by_cases hj : j = i
      · subst hj
        rw [hi] at e1; cases e1
        rw [List.getElem?_set_self hiσ] at e2
        cases e2
        exact ⟨u, r, .inl ⟨hk, by simp⟩⟩
      · rw [List.getElem?_set_ne (Ne.symm hj)] at e2
        obtain ⟨u', r', q⟩ := hl j y v' e1 e2 e3
        refine ⟨u', r', ?_⟩
        rcases q with ⟨k, e⟩ | ⟨k, c, e, z⟩
        · refine .inl ⟨k, ?_⟩
          have : y ≠ x := fun e => hj (nodup_ix hN e1 (e ▸ hi))
          simp [this, e]
        · exact .inr ⟨k, c, e, z.sameBut hs (cne y c e)⟩
    · obtain ⟨w', z⟩ := I.cell y c e
      exact ⟨w', z.sameBut hs (cne y c e)⟩
    · obtain ⟨e, n, ne, nf, d⟩ := I.pin p hp
      exact ⟨(hs.2 p.1 ne).trans e, n, ne, nf, d⟩
  · have hfn : X.fn x = true := by
      rcases hf with z | z
      · exact z
      · rw [z] at hk; cases hk
    obtain ⟨c, hc⟩ := I.ok.has x (.inl hk)
    obtain ⟨w', z⟩ := I.cell x c hc
    refine wpAny_storeName_cell I.ok.kind hk hc z (fun h' hc' hs => ?_)
    obtain ⟨oc, hoc, hocd⟩ := id z
    refine h { s with heap := h' } ⟨I.ok, I.os, I.bare, ⟨fun b o e n hb hx => ?_, fun b o e n hb hx => ?_, I.base.free, fun b o e hx => ?_, I.base.tups, I.base.frzs, I.base.tbls⟩, ⟨m, hn.sameBut hs (Ne.symm (cne x c hc)), fun j y v' e1 e2 e3 => ?_⟩, fun y c' e => ?_, I.free, I.freeC, fun p hp => ?_, tracked ⟨oc, hoc, I.freeC x c hc⟩ hs, by simpa using I.len⟩ ⟨c, hs, .inr hc⟩
    · exact (hs.2 b (Nat.ne_of_lt (Nat.lt_of_lt_of_le (Heap.lt_size e) (I.ok.cab x c hfn hc)))).trans (I.base.keep b o e n hb hx)
    · obtain ⟨sl, e1⟩ := I.base.slot b o e n hb hx
      exact ⟨sl, (hs.2 b (Nat.ne_of_lt (Nat.lt_of_lt_of_le (Heap.lt_size e) (I.ok.cab x c hfn hc)))).trans e1⟩
    · obtain ⟨o', e1⟩ := I.base.there b o e hx
      exact ⟨o', (hs.2 b (Nat.ne_of_lt (Nat.lt_of_lt_of_le (Heap.lt_size e) (I.ok.cab x c hfn hc)))).trans e1⟩
    · by_cases hj : j = i
      · subst hj
        rw [hi] at e1; cases e1
        rw [List.getElem?_set_self hiσ] at e2
        cases e2
        exact ⟨u, r, .inr ⟨.inl hk, c, hc, hc'⟩⟩
      · rw [List.getElem?_set_ne (Ne.symm hj)] at e2
        obtain ⟨u', r', q⟩ := hl j y v' e1 e2 e3
        refine ⟨u', r', ?_⟩
        rcases q with q | ⟨k, c', e, z'⟩
        · exact .inl q
        · refine .inr ⟨k, c', e, z'.sameBut hs ?_⟩
          rintro rfl
          exact hj (nodup_ix hN e1 (I.ok.inj _ _ _ e hc ▸ hi))
    · by_cases hcc : c' = c
      · subst hcc; exact ⟨_, hc'⟩
      · obtain ⟨w2, z2⟩ := I.cell y c' e
        exact ⟨w2, z2.sameBut hs hcc⟩
    · obtain ⟨e, n, ne, nf, d⟩ := I.pin p hp
      refine ⟨(hs.2 p.1 ?_).trans e, n, ne, nf, d⟩
      intro q
      rw [q, hoc] at e
      have q' : oc = p.2 := Option.some.inj e
      exact d w' (by rw [← q']; exact hocd)
theorem store_ok {M : Model} {A : Around} {E : Value → Shared → Prop} {i : Nat} {x : Str} {v : V} {u : Value} {Q : Unit → Shared → Prop} (I : Inv X pins σ H s) (hN : X.N.Nodup) (hi : X.N[i]? = some x) (hx : Loc X.env.scope x) (r : RelV v u)
    (h : ∀ s', Inv X pins (σ.set i (some v)) H s' → Q () s') (hf : X.fn x = true ∨ X.env.scope.names.lookup x = some .local := by first | exact .inl rfl | exact .inr rfl | assumption) : wpAny M A (storeName X.env x u) Q E s :=
  store_ok2 I hN hi hx r (fun s' I' _ => h s' I') hf
/-- behind a call or a block, the state as it is -/
theorem Inv.call' {s' : Shared} {ch : List Addr} (I : Inv X pins σ H s) (ho : s'.os = s.os) (u : Un (frs X.stack) ch H H' s.heap s'.heap) (hok : HOk X.prog X.w H' s'.heap) (hg : AllBare s'.gens)
    (hch : ∀ b ∈ ch, (b ∈ X.ex ∨ X.s_0.heap.objs.size ≤ b) ∧ b ≠ X.env.locals ∧ (∀ x c, X.env.cells.lookup x = some c → c ≠ b) ∧ ∀ p ∈ X.pn ++ pins, p.1 ≠ b) : Inv X pins σ H' s' := by
  obtain ⟨h', g', d', t', o'⟩ := s'
  have e : o' = s.os := ho
  subst e
  exact I.call (g' := g') (t' := t') (d' := d') u hok hg hch
end
/-! ### the judgements -/
/-- an exception: its class, its own dict's address (where it has one), the abstract heap behind it -/
abbrev XK := Value → Option Addr → Hp → Prop
abbrev St := List (Option V)
abbrev VK := V → Hp → Prop
/-- an expression's reading; a test's; an argument list's -/
abbrev TE := St → Hp → VK → Prop
abbrev TT := St → Hp → (Bool → Hp → Prop) → Prop
abbrev TA := St → Hp → (List V → Hp → Prop) → Prop
/-- what is wanted behind a statement -/
structure Ends where
  nx : St → Hp → Prop
  rt : VK
  bk : St → Hp → Prop := fun _ _ => False
  ct : St → Hp → Prop := fun _ _ => False
abbrev TS := Ends → St → Hp → Prop
def EP (X : Cx) (pins : List (Addr × Obj)) (σ : St) (Q : VK) (u : Value) (s' : Shared) : Prop := ∃ v H', Inv X pins σ H' s' ∧ RelV v u ∧ Q v H'
def TP (X : Cx) (pins : List (Addr × Obj)) (σ : St) (Q : Bool → Hp → Prop) (b : Bool) (s' : Shared) : Prop := ∃ H', Inv X pins σ H' s' ∧ Q b H'
def AP (X : Cx) (pins : List (Addr × Obj)) (σ : St) (Q : List V → Hp → Prop) (us : List Value) (s' : Shared) : Prop := ∃ vs H', Inv X pins σ H' s' ∧ Vals vs us ∧ Q vs H'
def SP (X : Cx) (pins : List (Addr × Obj)) (D : Ends) (f : Flow) (s' : Shared) : Prop :=
  match f with
  | .next => ∃ σ' H', Inv X pins σ' H' s' ∧ D.nx σ' H'
  | .brk => ∃ σ' H', Inv X pins σ' H' s' ∧ D.bk σ' H'
  | .cont => ∃ σ' H', Inv X pins σ' H' s' ∧ D.ct σ' H'
  | .ret u => ∃ v σ' H', Inv X pins σ' H' s' ∧ RelV v u ∧ D.rt v H'
def PE (X : Cx) (e : Expr) (t : TE) : Prop :=
  ∀ (pins : List (Addr × Obj)) (s : Shared) (σ : St) (H : Hp) (Q : VK), Inv X pins σ H s → t σ H Q → wpAny (model X.prog X.w) X.A (eval e X.env) (EP X pins σ Q) X.xe s
def PT (X : Cx) (e : Expr) (t : TT) : Prop :=
  ∀ (pins : List (Addr × Obj)) (s : Shared) (σ : St) (H : Hp) (Q : Bool → Hp → Prop), Inv X pins σ H s → t σ H Q → wpAny (model X.prog X.w) X.A (isTrue e X.env (eval e X.env)) (TP X pins σ Q) X.xe s
/-- a test whatever its 'whole' is (and, or) -/
def PW (X : Cx) (e : Expr) (t : TT) : Prop :=
  ∀ (whole : Sem Value) (pins : List (Addr × Obj)) (s : Shared) (σ : St) (H : Hp) (Q : Bool → Hp → Prop), Inv X pins σ H s → t σ H Q → wpAny (model X.prog X.w) X.A (isTrue e X.env whole) (TP X pins σ Q) X.xe s
theorem PW.pt {X : Cx} {e : Expr} {t : TT} (h : PW X e t) : PT X e t := h _
/-- an argument list (no star), from the left -/
def PA (X : Cx) (es : List Expr) (t : TA) : Prop :=
  ∀ (pos : Pos) (pins : List (Addr × Obj)) (s : Shared) (σ : St) (H : Hp) (Q : List V → Hp → Prop), Inv X pins σ H s → t σ H Q → wpAny (model X.prog X.w) X.A (spliced (backTo pos (starEach es X.env))) (AP X pins σ Q) X.xe s
def PS (X : Cx) (st : Stmt) (t : TS) : Prop :=
  ∀ (pins : List (Addr × Obj)) (s : Shared) (σ : St) (H : Hp) (D : Ends), Inv X pins σ H s → t D σ H → wpAny (model X.prog X.w) X.A (exec st X.env) (SP X pins D) X.xe s
def PSs (X : Cx) (st : List Stmt) (t : TS) : Prop :=
  ∀ (pins : List (Addr × Obj)) (s : Shared) (σ : St) (H : Hp) (D : Ends), Inv X pins σ H s → t D σ H → wpAny (model X.prog X.w) X.A (execs st X.env) (SP X pins D) X.xe s
/-- weaken the end -/
theorem thn {α : Type} {t : Sem α} {Q Q' : α → Shared → Prop} {M : Model} {A : Around} {E : Value → Shared → Prop} {s : Shared} (h : wpAny M A t Q E s) (hQ : ∀ a s, Q a s → Q' a s) : wpAny M A t Q' E s := wpAny_mono h hQ fun _ _ x => x
end L2
namespace L2
open PySem PySem.Spec PyProof.Rows
section
variable {X : Cx}
/-- two expressions in a row -/
theorem bin {a b : Expr} {ta tb : TE} (ha : PE X a ta) (hb : PE X b tb) {pins : List (Addr × Obj)} {s : Shared} {σ : St} {H : Hp} {R : V → V → Hp → Prop} (I : Inv X pins σ H s) (h : ta σ H fun x H1 => tb σ H1 fun y H2 => R x y H2)
    {α : Type} {Q : α → Shared → Prop} {f : Value → Value → Sem α}
    (hf : ∀ v u s2 x y H2, Inv X pins σ H2 s2 → RelV x v → RelV y u → R x y H2 → wpAny (model X.prog X.w) X.A (f v u) Q X.xe s2) :
    wpAny (model X.prog X.w) X.A (eval a X.env) (fun v s₁ => wpAny (model X.prog X.w) X.A (eval b X.env) (fun u s₂ => wpAny (model X.prog X.w) X.A (f v u) Q X.xe s₂) X.xe s₁) X.xe s := by
  refine thn (ha pins s σ H _ I h) fun v s1 ⟨x, H1, I1, r1, q1⟩ => ?_
  refine thn (hb pins s1 σ H1 _ I1 q1) fun u s2 ⟨y, H2, I2, r2, q2⟩ => ?_
  exact hf v u s2 x y H2 I2 r1 r2 q2
/-! ### names and constants -/
def tVar (i : Nat) : TE := fun σ H Q => ∃ v, σ[i]? = some (some v) ∧ Q v H
def tC (v : V) : TE := fun _ H Q => Q v H
theorem pe_var {i : Nat} {x : Str} {pos : Pos} (hN : X.N[i]? = some x) (hv : Vis X.env.scope x) (hd : (x == ("__debug__" : Str)) = false := by decide) (hcd : (x == ("__classdict__" : Str)) = false := by decide) : PE X (.Name x pos) (tVar i) := by
  intro pins s σ H Q I h
  obtain ⟨v, e, h⟩ := h
  obtain ⟨m, hn, hl⟩ := I.loc
  obtain ⟨u, r, l⟩ := hl i x v hN e hv
  have fin : EP X pins σ Q u s := ⟨v, H, I, r, h⟩
  rcases l with ⟨hk, hm⟩ | ⟨hk, c, hc, hcell⟩
  · exact wpAny_Name (wpAny_loadName_local I.ok.kind hk hn hm fin) hd
  · rcases hk with hk | hk
    · exact wpAny_Name (wpAny_loadName_cell I.ok.kind hk hc hcell fin) hd
    · exact wpAny_Name (wpAny_loadName_free I.ok.kind hk hc hcell fin hcd) hd
theorem pe_int {i j pos} : PE X (.Constant (.int i) j pos) (tC (.int i)) := fun _ _ _ H _ I h => wpAny_Constant_int ⟨.int i, H, I.tok _, ⟨_, rfl⟩, h⟩
theorem pe_bl {b j pos} : PE X (.Constant (.bool b) j pos) (tC (.bl b)) := fun _ _ _ H _ I h => Constant_bool ⟨.bl b, H, I, rfl, h⟩
/-- a global name of the def -/
def Gl (X : Cx) (x : Str) : Prop := X.env.kindOf x = some .globalImplicit
theorem ld_glob {E : Value → Shared → Prop} {pins : List (Addr × Obj)} {s : Shared} {σ : St} {H : Hp} {x : Str} {u : Value} {pos : Pos} {Q : Value → Shared → Prop} (I : Inv X pins σ H s) (hg : Gl X x) (hm : X.mg x = some u) (h : Q u s)
    (hd : (x == ("__debug__" : Str)) = false := by decide) : wpAny (model X.prog X.w) X.A (eval (.Name x pos) X.env) Q E s :=
  Calls.Name_function_global I.ok.kind hg (Calls.loadGlobal_global (by rw [I.ok.glob]; exact I.mod.glob.keeps I.bk) hm h) hd
theorem ld_blt {E : Value → Shared → Prop} {pins : List (Addr × Obj)} {s : Shared} {σ : St} {H : Hp} {x : Str} {u : Value} {pos : Pos} {Q : Value → Shared → Prop} (I : Inv X pins σ H s) (hg : Gl X x) (hm : X.mg x = none) (hv : bootBuiltins x = some u) (h : Q u s)
    (hn : x ≠ "__name__" := by decide) (hd : (x == ("__debug__" : Str)) = false := by decide) : wpAny (model X.prog X.w) X.A (eval (.Name x pos) X.env) Q E s := by
  obtain ⟨mb, h1, h2⟩ := I.mod.blt
  exact Calls.Name_function_global I.ok.kind hg (Calls.loadGlobal_builtin (by rw [I.ok.glob]; exact I.mod.glob.keeps I.bk) hm (by rw [I.ok.blt]; exact h1.keeps I.bk) ((h2 x hn).trans hv) h) hd
/-- a module's constant, a class, a function, as a value -/
theorem pe_glob {x : Str} {v : V} {u : Value} {pos : Pos} (hg : Gl X x) (hm : X.mg x = some u) (r : RelV v u) (hd : (x == ("__debug__" : Str)) = false := by decide) : PE X (.Name x pos) (tC v) :=
  fun _ _ _ H _ I h => ld_glob I hg hm ⟨v, H, I, r, h⟩ hd
/-! ### arithmetic -/
variable {a b : Expr} {ta tb : TE} {pos : Pos}
/-! ### comparisons -/
def PC (X : Cx) (op : CmpOp) (a b : Expr) (t : TE) : Prop :=
  ∀ (pins : List (Addr × Obj)) (s : Shared) (σ : St) (H : Hp) (Q : VK), Inv X pins σ H s → t σ H Q →
    wpAny (model X.prog X.w) X.A (eval a X.env) (fun v s₁ => wpAny (model X.prog X.w) X.A (eval b X.env) (fun u s₂ => wpAny (model X.prog X.w) X.A (compareOp op v u) (EP X pins σ Q) X.xe s₂) X.xe s₁) X.xe s
/-- a comparison as a value, as a test -/
def tB (t : TE) : TT := fun σ H Q => t σ H fun x H1 => ∃ c, x = .bl c ∧ Q c H1
theorem pt_cmp {op : CmpOp} {t : TE} (h : PC X op a b t) (h1 : behindInMarks op b = false := by first | exact nobehind _ (by decide) (by decide) | rfl) : PT X (.Compare a [op] [b] pos) (tB t) := by
  intro pins s σ H Q I hw
  refine wpAny_isTrue_Compare1 (thn (h pins s σ H _ I hw) fun v s1 h1 => thn h1 fun u s2 h2 => thn h2 fun c s3 ⟨x, H1, I1, r1, q1⟩ => ?_) h1
  obtain ⟨d, rfl, q⟩ := q1
  cases r1
  exact wpAny_truthy_bool ⟨H1, I1, q⟩
/-! ### and, or, not -/
variable {tA tB' : TT} {rest : List Expr}
def tOr (t u : TT) : TT := fun σ H Q => t σ H fun c H1 => if c = true then Q true H1 else u σ H1 Q
def tNot (t : TT) : TT := fun σ H Q => t σ H fun c H1 => Q (!c) H1
theorem pw_or1 (ha : PT X a tA) : PW X (.BoolOp .Or [a] pos) tA := by
  intro wh pins s σ H Q I h
  refine isTrue_or (thn (ha pins s σ H Q I h) fun c s1 e => ?_)
  cases c with
  | false => exact isTrue_or_nil e
  | true => exact e
theorem pw_or (ha : PT X a tA) (hb : PW X (.BoolOp .Or (b :: rest) pos) tB') : PW X (.BoolOp .Or (a :: b :: rest) pos) (tOr tA tB') := by
  intro wh pins s σ H Q I h
  refine isTrue_or (thn (ha pins s σ H _ I h) fun c s1 ⟨H1, I1, q1⟩ => ?_)
  cases c with
  | true => exact ⟨H1, I1, q1⟩
  | false => exact hb wh pins s1 σ H1 Q I1 q1
theorem pt_not (ha : PT X a tA) : PT X (.UnaryOp .Not a pos) (tNot tA) := by
  intro pins s σ H Q I h
  exact isTrue_not (ha pins s σ H (fun c H1 => Q (!c) H1) I h)
/-- .. as values (bools) -/
def tAndV (ta tb : TE) : TE := fun σ H Q => ta σ H fun x H1 => ∃ c, x = .bl c ∧ if c = true then tb σ H1 Q else Q (.bl false) H1
theorem pe_one {op} {t : TE} (h : PE X a t) : PE X (.BoolOp op [a] pos) t := fun pins s σ H Q I hw => BoolOp_one (h pins s σ H Q I hw)
theorem pe_and (ha : PE X a ta) (hb : PE X (.BoolOp .And (b :: rest) pos) tb) : PE X (.BoolOp .And (a :: b :: rest) pos) (tAndV ta tb) := by
  intro pins s σ H Q I h
  refine BoolOp_and (thn (ha pins s σ H _ I h) fun v s1 ⟨x, H1, I1, r1, q1⟩ => ?_)
  obtain ⟨c, rfl, q1⟩ := q1
  cases r1
  refine wpAny_truthy_bool ?_
  cases c with
  | true => exact hb pins s1 σ H1 Q I1 q1
  | false => exact ⟨.bl false, H1, I1, rfl, q1⟩
/-- a if t else b -/
def tIf (t : TT) (ta tb : TE) : TE := fun σ H Q => t σ H fun c H1 => if c = true then ta σ H1 Q else tb σ H1 Q
theorem pe_ifExp {c : Expr} (hc : PT X c tA) (ha : PE X a ta) (hb : PE X b tb) : PE X (.IfExp c a b pos) (tIf tA ta tb) := by
  intro pins s σ H Q I h
  refine wpAny_IfExp (thn (hc pins s σ H _ I h) fun d s1 ⟨H1, I1, q1⟩ => ?_)
  cases d with
  | true => exact ha pins s1 σ H1 Q I1 q1
  | false => exact hb pins s1 σ H1 Q I1 q1
end
end L2
namespace L2
open PySem PySem.Spec PyProof.Rows
/-! ### a list, a tuple that is read: tracked, frozen, or an object of the module -/
def SqL (K : PySem.W.Frag) (H : Hp) (a : Addr) (xs : List V) : Prop :=
  Rd H a (.lst xs) ∨
    ∃ (o : Obj) (its : Array Value) (n : Nat), K.lookup a = some o ∧ o.cls = .type "list" ∧ o.dict = none ∧ o.data = .seq its n ∧ its.size ≤ sizeLine ∧ Vals xs its.toList
def SqT (K : PySem.W.Frag) (H : Hp) (a : Addr) (xs : List V) : Prop :=
  Rd H a (.tup xs) ∨
    ∃ (o : Obj) (its : Array Value) (n : Nat), K.lookup a = some o ∧ o.cls = .type "tuple" ∧ o.data = .seq its n ∧ its.size ≤ sizeLine ∧ Vals xs its.toList
def absV : Value → Option V
  | .none => some .non
  | .bool b => some (.bl b)
  | .int i _ => some (.int i)
  | .str x _ => some (.str x)
  | .bytes b _ => some (.byt b)
  | .float b _ => some (.flt b)
  | .ref a => some (.ref a)
  | .type n => some (.ty n)
  | _ => none
theorem RelV.abs {x : V} {u : Value} (r : RelV x u) : absV u = some x := by
  cases x with
  | non => cases r; rfl
  | bl _ => cases r; rfl
  | int _ => obtain ⟨t, rfl⟩ := r; rfl
  | str _ => obtain ⟨t, rfl⟩ := r; rfl
  | byt _ => obtain ⟨t, rfl⟩ := r; rfl
  | flt _ => obtain ⟨t, rfl⟩ := r; rfl
  | ref _ => cases r; rfl
  | ty _ => cases r; rfl
theorem RelV.inj {x y : V} {u : Value} (r : RelV x u) (q : RelV y u) : x = y := Option.some.inj (r.abs.symm.trans q.abs)
theorem Vals.inj : ∀ {xs ys : List V} {us : List Value}, Vals xs us → Vals ys us → xs = ys
  | _, _, _, .nil, .nil => rfl
  | _, _, _, .cons r t, .cons r' t' => by rw [r.inj r', Vals.inj t t']
section
variable {X : Cx} {pins : List (Addr × Obj)} {σ : St} {H : Hp} {s : Shared} {a : Addr} {xs ys : List V}
theorem SqL.of {K : PySem.W.Frag} (h : H a = some (.lst xs)) : SqL K H a xs := .inl (.inl h)
theorem SqT.of {K : PySem.W.Frag} (h : H a = some (.tup xs)) : SqT K H a xs := .inl (.inl h)
theorem Inv.list (I : Inv X pins σ H s) (h : SqL X.K H a xs) : ∃ its : List Value, Vals xs its ∧ PlainL s.heap a its.toArray ∧ xs.length ≤ sizeLine := by
  rcases h with h | ⟨o, its, n, hk, hc, hd, hs, hz, r⟩
  · obtain ⟨z, its, n, r, e⟩ := h.ok I.hok
    exact ⟨its, r, ⟨_, n, e, rfl, rfl, rfl⟩, z⟩
  · refine ⟨its.toList, r, ⟨o, n, I.kIn a o hk, hc, hd, by simpa using hs⟩, ?_⟩
    have e := r.length
    simp only [Array.length_toList] at e
    omega
theorem Inv.tuple (I : Inv X pins σ H s) (h : SqT X.K H a xs) : ∃ its : List Value, Vals xs its ∧ IsTup s.heap a its.toArray ∧ xs.length ≤ sizeLine := by
  rcases h with h | ⟨o, its, n, hk, hc, hs, hz, r⟩
  · obtain ⟨z, its, r, p⟩ := h.ok I.hok
    exact ⟨its, r, p, z⟩
  · refine ⟨its.toList, r, ⟨o, I.kIn a o hk, hc, n, by simpa using hs⟩, ?_⟩
    have e := r.length
    simp only [Array.length_toList] at e
    omega
theorem Inv.list_inj (I : Inv X pins σ H s) (h : SqL X.K H a xs) (h' : SqL X.K H a ys) : xs = ys := by
  obtain ⟨its, r, ⟨o, n, e, _, _, d⟩, _⟩ := I.list h
  obtain ⟨its', r', ⟨o', n', e', _, _, d'⟩, _⟩ := I.list h'
  rw [e] at e'; cases e'
  rw [d] at d'
  injection d' with d1 _
  have : its = its' := by simpa using congrArg Array.toList d1
  subst this
  exact r.inj r'
end
/-! ### another wish about exceptions -/
abbrev Cx.wish (X : Cx) (E : Value → Shared → Prop) : Cx := { X with xe := E }
/-- no exception leaves -/
abbrev Cx.nox (X : Cx) : Cx := X.wish fun _ _ => False
theorem Cx.Ok.wish {X : Cx} (ok : X.Ok) (E : Value → Shared → Prop) : (X.wish E).Ok :=
  ⟨ok.mod, ok.kind, ok.glob, ok.blt, ok.above, ok.inj, ok.has, ok.cab, ok.hd, ok.frames, ok.stk, ok.exf, ok.bs, ok.bsz, ok.noex, ok.exfs, ok.funs, ok.frf⟩
theorem Cx.Ok.unwish {X : Cx} {E : Value → Shared → Prop} (ok : (X.wish E).Ok) : X.Ok :=
  ⟨ok.mod, ok.kind, ok.glob, ok.blt, ok.above, ok.inj, ok.has, ok.cab, ok.hd, ok.frames, ok.stk, ok.exf, ok.bs, ok.bsz, ok.noex, ok.exfs, ok.funs, ok.frf⟩
section
variable {X : Cx} {pins : List (Addr × Obj)} {σ : St} {H : Hp} {s : Shared} {E : Value → Shared → Prop}
theorem Inv.wish (I : Inv X pins σ H s) (E : Value → Shared → Prop) : Inv (X.wish E) pins σ H s := ⟨I.ok.wish E, I.os, I.bare, I.base, I.loc, I.cell, I.free, I.freeC, I.pin, I.hok, I.len⟩
theorem Inv.unwish (I : Inv (X.wish E) pins σ H s) : Inv X pins σ H s := ⟨I.ok.unwish, I.os, I.bare, I.base, I.loc, I.cell, I.free, I.freeC, I.pin, I.hok, I.len⟩
theorem SP.unwish {D : Ends} {f : Flow} {s' : Shared} (h : SP (X.wish E) pins D f s') : SP X pins D f s' := by
  cases f with
  | next => obtain ⟨σ', H', I, q⟩ := h; exact ⟨σ', H', I.unwish, q⟩
  | brk => obtain ⟨σ', H', I, q⟩ := h; exact ⟨σ', H', I.unwish, q⟩
  | cont => obtain ⟨σ', H', I, q⟩ := h; exact ⟨σ', H', I.unwish, q⟩
  | ret u => obtain ⟨v, σ', H', I, r, q⟩ := h; exact ⟨v, σ', H', I.unwish, r, q⟩
theorem PSs.nox {st : List Stmt} {t : TS} (h : PSs X.nox st t) : PSs X st t := fun pins s σ H D I hw =>
  wpAny_mono (h pins s σ H D (I.wish _) hw) (fun _ _ q => q.unwish) fun _ _ z => False.elim z
end
/-! ### blocks and small statements -/
section
variable {X : Cx} {st : Stmt} {rest : List Stmt} {t u : TS} {e : Expr} {te : TE} {pos : Pos}
def tNext : TS := fun D σ H => D.nx σ H
def tSeq (t u : TS) : TS := fun D σ H => t { D with nx := u D } σ H
theorem pss_nil : PSs X [] tNext := fun _ _ σ H _ I h => wpAny_execs_nil ⟨σ, H, I, h⟩
theorem pss_cons (h1 : PS X st t) (h2 : PSs X rest u) : PSs X (st :: rest) (tSeq t u) := by
  intro pins s σ H D I h
  refine wpAny_execs_cons (thn (h1 pins s σ H { D with nx := u D } I h) fun f s1 q => ?_)
  cases f with
  | next =>
    obtain ⟨σ', H', I', q⟩ := q
    exact h2 pins s1 σ' H' D I' q
  | ret v => exact q
  | brk => exact q
  | cont => exact q
theorem pss_one (h1 : PS X st t) : PSs X [st] t := by
  intro pins s σ H D I h
  refine wpAny_execs_cons (thn (h1 pins s σ H D I h) fun f s1 q => ?_)
  cases f with
  | next => exact wpAny_execs_nil q
  | ret v => exact q
  | brk => exact q
  | cont => exact q
/-- in a def's body nothing is shown -/
theorem Inv.quiet {pins : List (Addr × Obj)} {σ : St} {H : Hp} {s : Shared} (I : Inv X pins σ H s) : interactive X.env = false := by simp [interactive, I.ok.kind]
/-- an expression whose value is dropped -/
def tDrop (te : TE) : TS := fun D σ H => te σ H fun _ H1 => D.nx σ H1
theorem ps_expr (he : PE X e te) (hs : swapsWith e none pos.line X.env = pure false := by rfl) : PS X (.Expr e pos) (tDrop te) := by
  intro pins s σ H D I h
  exact wpAny_Expr_any (thn (he pins s σ H _ I h) fun v s1 ⟨x, H1, I1, r1, q1⟩ => ⟨σ, H1, I1, q1⟩) I.quiet hs
def tRet (te : TE) : TS := fun D σ H => te σ H D.rt
theorem ps_ret (he : PE X e te) : PS X (.Return (some e) pos) (tRet te) := by
  intro pins s σ H D I h
  exact wpAny_Return_some (thn (he pins s σ H _ I h) fun v s1 ⟨x, H1, I1, r1, q1⟩ => ⟨x, σ, H1, I1, r1, q1⟩)
def tIfS (c : TT) (t u : TS) : TS := fun D σ H => c σ H fun b H1 => if b = true then t D σ H1 else u D σ H1
theorem ps_if {c : Expr} {a b : List Stmt} {tc : TT} (hc : PT X c tc) (ha : PSs X a t) (hb : PSs X b u) : PS X (.If c a b pos) (tIfS tc t u) := by
  intro pins s σ H D I h
  refine wpAny_If (thn (hc pins s σ H _ I h) fun d s1 ⟨H1, I1, q1⟩ => ?_)
  cases d with
  | true => exact ha pins s1 σ H1 D I1 q1
  | false => exact hb pins s1 σ H1 D I1 q1
end
/-! ### targets -/
abbrev TG := V → St → Hp → (St → Hp → Prop) → Prop
def PG (X : Cx) (target : Expr) (t : TG) : Prop :=
  ∀ (pins : List (Addr × Obj)) (s : Shared) (σ : St) (H : Hp) (v : V) (u : Value) (Q : St → Hp → Prop), Inv X pins σ H s → RelV v u → t v σ H Q →
    wpAny (model X.prog X.w) X.A (assign target X.env u) (fun _ s' => ∃ σ' H', Inv X pins σ' H' s' ∧ Q σ' H') X.xe s
section
variable {X : Cx} {pos : Pos}
def gName (i : Nat) : TG := fun v σ H Q => Q (σ.set i (some v)) H
theorem pg_name {i : Nat} {x : Str} (hN : X.N.Nodup) (hi : X.N[i]? = some x) (hx : Loc X.env.scope x) (hf : X.fn x = true ∨ X.env.scope.names.lookup x = some .local := by first | exact .inl rfl | exact .inr rfl | assumption) : PG X (.Name x pos) (gName i) := by
  intro pins s σ H v u Q I r h
  exact wpAny_assign_Name (store_ok I hN hi hx r (fun s' I' => ⟨_, H, I', h⟩) hf)
/-- target = value -/
def tAsg (te : TE) (g : TG) : TS := fun D σ H => te σ H fun x H1 => g x σ H1 D.nx
/-- name = value -/
theorem ps_set {i : Nat} {x : Str} {e : Expr} {te : TE} {pos' : Pos} (hN : X.N.Nodup) (hi : X.N[i]? = some x) (hx : Loc X.env.scope x) (he : PE X e te) (hs : swapsWith e (some (.Name x pos')) pos.line X.env = pure false := by rfl) (hf : X.fn x = true ∨ X.env.scope.names.lookup x = some .local := by first | exact .inl rfl | exact .inr rfl | assumption) :
    PS X (.Assign [.Name x pos'] e pos) (tAsg te (gName i)) := by
  intro pins s σ H D I h
  refine wpAny_Assign_Name (thn (he pins s σ H _ I h) fun v s1 ⟨y, H1, I1, r1, q1⟩ => ?_) hs
  exact store_ok I1 hN hi hx r1 (fun s2 I2 => ⟨_, H1, I2, q1⟩) hf
end
/-! ### while -/
section
variable {X : Cx} {pos : Pos}
/-- the invariant W with its measure -/
def tWhile (c : TT) (tb : TS) : TS := fun D σ H => ∃ W : Nat → St → Hp → Prop, (∃ m, W m σ H) ∧ ∀ m σ H, W m σ H →
  c σ H fun b H1 => if b = true then ∃ N : St → Hp → Prop, (∀ σ' H', N σ' H' → ∃ m', m' < m ∧ W m' σ' H') ∧ tb { D with nx := N, ct := N, bk := D.nx } σ H1 else D.nx σ H1
theorem ps_while {c : Expr} {body : List Stmt} {tc : TT} {tb : TS} (hp : PassesOwn (model X.prog X.w) X.A X.env X.xe) (hc : PT X c tc) (hb : PSs X body tb) : PS X (.While c body [] pos) (tWhile tc tb) := by
  intro pins s σ H D I h
  obtain ⟨W, ⟨m0, w0⟩, turn⟩ := h
  refine wpAny_While (codeAny_whileLoop (fun n s' => ∃ σ' H', Inv X pins σ' H' s' ∧ W n σ' H') ?_ m0 ⟨σ, H, I, w0⟩)
  rintro n s1 ⟨σ1, H1, I1, w1⟩
  refine wpAny_passesOwn hp (thn (hc pins s1 σ1 H1 _ I1 (turn n σ1 H1 w1)) fun b s2 ⟨H2, I2, q2⟩ => ?_)
  cases b with
  | true =>
    obtain ⟨N, hN, q2⟩ := q2
    rw [if_pos rfl]
    refine wpAny_passesOwn hp (thn (hb pins s2 σ1 H2 _ I2 q2) fun f s3 q3 => ?_)
    cases f with
    | next =>
      obtain ⟨σ3, H3, I3, n3⟩ := q3
      obtain ⟨m', hm, w3⟩ := hN σ3 H3 n3
      exact ⟨m', hm, σ3, H3, I3, w3⟩
    | cont =>
      obtain ⟨σ3, H3, I3, n3⟩ := q3
      obtain ⟨m', hm, w3⟩ := hN σ3 H3 n3
      exact ⟨m', hm, σ3, H3, I3, w3⟩
    | brk => exact q3
    | ret v => exact q3
  | false =>
    rw [if_neg Bool.false_ne_true]
    exact wpAny_execs_nil ⟨σ1, H2, I2, q2⟩
end
/-! ### what a loop or a comprehension walks -/
/-- at turn i: it yields x (the heap may grow), or it stops -/
structure It where
  go : Nat → Hp → Prop
  yld : Nat → Hp → V → Hp → Prop
  stop : Nat → Hp → Prop
/-- the iterator's own objects may turn: they are not the frame's, not pinned, younger than the entry (or a comprehension's own) -/
def FpOk (X : Cx) (pins : List (Addr × Obj)) (H : Hp) (b : Addr) : Prop :=
  H b = none ∧ b ≠ X.env.locals ∧ b ∉ X.fs ∧ (b ∈ X.ex ∨ X.s_0.heap.objs.size ≤ b) ∧ (∀ x c, X.env.cells.lookup x = some c → c ≠ b) ∧ ∀ p ∈ X.pn ++ pins, p.1 ≠ b
theorem Inv.fpOk {X : Cx} {pins : List (Addr × Obj)} {σ : St} {H H' : Hp} {s : Shared} {b : Addr} (I : Inv X pins σ H s) (hb : s.heap.objs.size ≤ b) (hn : H' b = none) : FpOk X pins H' b := by
  refine ⟨hn, Nat.ne_of_gt (Nat.lt_of_lt_of_le I.lt hb), I.nofs hb, .inr (Nat.le_trans I.sz hb), fun x c e z => ?_, fun p hp z => ?_⟩
  · obtain ⟨v, q⟩ := I.cell x c e
    exact absurd (Nat.lt_of_lt_of_le q.lt (by rw [z]; exact hb)) (Nat.lt_irrefl _)
  · exact absurd (Nat.lt_of_lt_of_le (Heap.lt_size (I.pin p hp).1) (by rw [z]; exact hb)) (Nat.lt_irrefl _)
structure Turn (P : Program) (w : World) (K : PySem.W.Frag) (tg : Expr) (J : It) (fp : List Addr) (it : Addr) (tn : Nat → Heap → Prop) : Prop where
  mem : it ∈ fp
  obj : ∀ i h, tn i h → ∀ b ∈ fp, ∃ o, h.get? b = some o ∧ ∀ v, o.data ≠ .cell v
  keep : ∀ i h h', tn i h → (∀ b ∈ fp, ∀ o, h.get? b = some o → h'.get? b = some o) → tn i h'
  item : ∀ (X : Cx), X.prog = P → X.w = w → X.K = K → X.calm = true → ∀ (i : Nat) (pins : List (Addr × Obj)) (s : Shared) (σ : St) (H : Hp) (E : Value → Shared → Prop), Inv X pins σ H s → (∀ b ∈ fp, FpOk X pins H b) → tn i s.heap → J.go i H →
    wpAny (model P w) X.A (pyNext (.ref it)) (fun r s1 => ∃ u, r = some u ∧
      wpAny (model P w) X.A (letOwnedTupleGo tg (.ref it) u) (fun _ s2 => ∃ x H', Inv X pins σ H' s2 ∧ RelV x u ∧ J.yld i H x H' ∧ tn (i + 1) s2.heap ∧ ∀ b ∈ fp, H' b = none) E s1) E s
  done : ∀ (X : Cx), X.prog = P → X.w = w → X.K = K → X.calm = true → ∀ (i : Nat) (pins : List (Addr × Obj)) (s : Shared) (σ : St) (H : Hp) (E : Value → Shared → Prop), Inv X pins σ H s → (∀ b ∈ fp, FpOk X pins H b) → tn i s.heap → J.stop i H →
    wpAny (model P w) X.A (pyNext (.ref it)) (fun r s1 => r = none ∧ Inv X pins σ H s1) E s
  self : ∀ (A : Around) (i : Nat) (s : Shared) (Q : Value → Shared → Prop) (E : Value → Shared → Prop), tn i s.heap → Q (.ref it) s → wpAny (model P w) A (pyIter (.ref it)) Q E s
abbrev TI := St → Hp → (It → Hp → Prop) → Prop
/-- an iterator has come -/
def PIE (X : Cx) (pins : List (Addr × Obj)) (σ : St) (tg : Expr) (R : It → Hp → Prop) (itv : Value) (s2 : Shared) : Prop :=
  ∃ (it : Addr) (fp : List Addr) (tn : Nat → Heap → Prop) (J : It) (H' : Hp), itv = .ref it ∧ Inv X pins σ H' s2 ∧ Turn X.prog X.w X.K tg J fp it tn ∧ tn 0 s2.heap ∧ (∀ b ∈ fp, FpOk X pins H' b) ∧ R J H'
def PI (X : Cx) (tg iter : Expr) (wi : TI) : Prop :=
  ∀ (pins : List (Addr × Obj)) (s : Shared) (σ : St) (H : Hp) (R : It → Hp → Prop), Inv X pins σ H s → wi σ H R →
    wpAny (model X.prog X.w) X.A (eval iter X.env) (fun v s1 => wpAny (model X.prog X.w) X.A (pyIter v) (PIE X pins σ tg R) X.xe s1) X.xe s
/-- the step ahead of the store is nothing for an iterator that keeps no tuple -/
theorem go_of {M : Model} {A : Around} {E : Value → Shared → Prop} {s : Shared} {tg : Expr} {it : Addr} {u : Value} {o : Obj} {n : String} {vs : Array Value} {Q : Unit → Shared → Prop} (ho : s.heap.get? it = some o) (hc : o.cls = .type n) (hd : o.data = .fields vs)
    (hn : ["enumerate", "zip", "dict_itemiterator", "dict_reverseitemiterator", "odict_iterator", "itertools.zip_longest", "itertools.pairwise"].contains n = false) (hQ : Q () s) : wpAny M A (letOwnedTupleGo tg (.ref it) u) Q E s := by
  unfold letOwnedTupleGo
  cases tg <;> first
    | exact wpAny_pure hQ
    | (cases u <;> first
        | exact wpAny_pure hQ
        | (refine wpAny_bind (wpAny_load ho ?_)
           rw [hc, hd]
           show wpAny M A (if (["enumerate", "zip", "dict_itemiterator", "dict_reverseitemiterator", "odict_iterator", "itertools.zip_longest", "itertools.pairwise"].contains n && vs[0]? == some (rawInt _)) = true then _ else _) Q E s
           rw [if_neg (by intro h; rw [hn, Bool.false_and] at h; cases h)]
           exact wpAny_pure hQ))
/-- the list at a, as it stands at each turn (a loop may append to it) -/
def Itl (K : PySem.W.Frag) (a : Addr) : It :=
  ⟨fun i H => ∃ xs x, SqL K H a xs ∧ xs[i]? = some x, fun i H x H' => H' = H ∧ ∀ xs, SqL K H a xs → xs[i]? = some x, fun i H => ∃ xs, SqL K H a xs ∧ xs.length ≤ i⟩
/-- lo, lo + 1, .. (n of them) -/
def Itr (lo : Int) (n : Nat) : It := ⟨fun i _ => i < n, fun i H x H' => H' = H ∧ x = .int (lo + i), fun i _ => n ≤ i⟩
theorem turn_list {P : Program} {w : World} {K : PySem.W.Frag} {tg : Expr} (a it : Addr) : Turn P w K tg (Itl K a) [it] it (fun i h => h.IsListIter it a i) where
  mem := by simp
  obj := fun i h st b hb => by
    have e : b = it := by simpa using hb
    subst e
    obtain ⟨o, e, c, d⟩ := st
    exact ⟨o, e, fun v z => by rw [d] at z; cases z⟩
  keep := fun i h h' st k => st.at fun o e => k it (by simp) o e
  item := by
    intro X hP hw hK hc i pins s σ H E I hf st hg
    subst hP hw hK
    obtain ⟨xs, x, hq, hx⟩ := hg
    obtain ⟨its, rv, p, hz⟩ := I.list hq
    obtain ⟨u, hu, ru⟩ := rv.get hx
    obtain ⟨f0, f1, f2, f3, f4, f5⟩ := hf it (by simp)
    refine wpAny_pyNext_list_item st p.isList (x := u) (by simpa using hu) fun h' st' sb => ?_
    have I1 : Inv X pins σ H { s with heap := h' } := I.turned (t' := s.toks) (fun b o hb e => (sb.2 b hb).trans e) f0 f1 f3 f4 f5
    obtain ⟨o, e, c, d⟩ := id st'
    exact ⟨u, rfl, go_of (s := { s with heap := h' }) e c d (by decide) ⟨x, H, I1, ru, ⟨rfl, fun ys hy => by rw [I.list_inj hy hq]; exact hx⟩, st', fun b hb => (hf b hb).1⟩⟩
  done := by
    intro X hP hw hK hc i pins s σ H E I hf st hg
    subst hP hw hK
    obtain ⟨xs, hq, hx⟩ := hg
    obtain ⟨its, rv, p, hz⟩ := I.list hq
    obtain ⟨f0, f1, f2, f3, f4, f5⟩ := hf it (by simp)
    have hl := rv.length
    exact wpAny_pyNext_list_end (I.ok.hd hc) st p.isList (by simp; omega) fun h' eb => ⟨rfl, I.turned (t' := s.toks) (fun b o hb e => eb b o hb e) f0 f1 f3 f4 f5⟩
  self := fun _ _ _ _ _ st h => wpAny_pyIter_listiter st h
theorem turn_range {P : Program} {w : World} {K : PySem.W.Frag} {tg : Expr} (it : Addr) (lo : Int) (n : Nat) : Turn P w K tg (Itr lo n) [it] it (fun i h => IsRangeIter h it (lo + (i : Nat) * 1) ((n : Int) - (i : Nat)) 1) where
  mem := by simp
  obj := fun i h st b hb => by
    have e : b = it := by simpa using hb
    subst e
    exact ⟨_, st, fun v z => by
      have z' : Data.fields _ = Data.cell v := z
      cases z'⟩
  keep := fun i h h' st k => k it (by simp) _ st
  item := by
    intro X hP hw hK hc i pins s σ H E I hf st hg
    subst hP hw hK
    obtain ⟨f0, f1, f2, f3, f4, f5⟩ := hf it (by simp)
    have W := Walks.range (prog := X.prog) (w := X.w) (I.ok.hd hc) it lo 1 n
    refine W.item i s _ _ hg st fun v h' tk hv st' kk => ?_
    obtain ⟨t, rfl⟩ := hv
    have I1 : Inv X pins σ H { s with heap := h', toks := tk } := I.turned (fun b o hb e => kk b o (by simpa using hb) e) f0 f1 f3 f4 f5
    refine ⟨_, rfl, go_of (s := { s with heap := h', toks := tk }) (n := "range_iterator") st' rfl rfl (by decide) ⟨.int (lo + i), H, I1, ⟨t, ?_⟩, ⟨rfl, rfl⟩, st', fun b hb => (hf b hb).1⟩⟩
    rw [Int.mul_one]
  done := by
    intro X hP hw hK hc i pins s σ H E I hf st hg
    subst hP hw hK
    obtain ⟨f0, f1, f2, f3, f4, f5⟩ := hf it (by simp)
    exact wpAny_pyNext_range_end (I.ok.hd hc) st (by have : n ≤ i := hg; omega) fun h' eb => ⟨rfl, I.turned (t' := s.toks) (fun b o hb e => eb b o hb e) f0 f1 f3 f4 f5⟩
  self := fun _ _ _ _ _ st h => wpAny_pyIter_rangeiter st h
end L2
namespace L2
open PySem PySem.Spec PyProof.Rows
section
variable {X : Cx} {tg : Expr}
def iList (K : PySem.W.Frag) (tl : TE) : TI := fun σ H R => tl σ H fun x H1 => ∃ a, x = .ref a ∧ (∃ xs, SqL K H1 a xs) ∧ R (Itl K a) H1
theorem pi_list {l : Expr} {tl : TE} (hl : PE X l tl) : PI X tg l (iList X.K tl) := by
  intro pins s σ H R I h
  refine thn (hl pins s σ H _ I h) fun v s1 ⟨x, H1, I1, r1, q1⟩ => ?_
  obtain ⟨a, e, ⟨xs, hq⟩, q⟩ := q1
  subst e
  cases r1
  obtain ⟨its, rv, p, hz⟩ := I1.list hq
  refine wpAny_pyIter_list p.isList ?_
  refine ⟨s1.heap.objs.size, [s1.heap.objs.size], _, _, H1, rfl, I1.kept (t' := s1.toks) fun b o e => Heap.get?_push_of_some _ e, turn_list a _, ⟨_, Heap.get?_push_size _ rfl, rfl, rfl⟩, fun b hb => ?_, q⟩
  have e : b = s1.heap.objs.size := by simpa using hb
  subst e
  exact I1.fpOk (Nat.le_refl _) (I1.hok.fresh (Nat.le_refl _))
/-- a range object just made, walked -/
theorem range_it {pins : List (Addr × Obj)} {σ : St} {H : Hp} {s : Shared} {R : It → Hp → Prop} {E : Value → Shared → Prop} {lo hi : Int} {t u v : Tok} {tk : Nat} (I : Inv X pins σ H s) (h1 : -(2 ^ 62) ≤ lo) (h2 : lo < 2 ^ 62) (h3 : -(2 ^ 62) ≤ hi) (h4 : hi < 2 ^ 62)
    (q : R (Itr lo (hi - lo).toNat) H) : wpAny (model X.prog X.w) X.A (pyIter (.ref s.heap.objs.size)) (PIE X pins σ tg R) E { s with heap := s.heap.push { cls := .type "range", data := .fields #[.int lo t, .int hi u, .int 1 v] }, toks := tk } := by
  refine wpAny_pyIter_range (IsRange.new ..) (small_one h1 h2 h3 h4) ?_
  have I1 : Inv X pins σ H { s with heap := s.heap.push { cls := .type "range", data := .fields #[.int lo t, .int hi u, .int 1 v] }, toks := tk } := I.kept fun b o e => Heap.get?_push_of_some _ e
  refine ⟨(s.heap.push { cls := .type "range", data := .fields #[.int lo t, .int hi u, .int 1 v] }).objs.size, [(s.heap.push { cls := .type "range", data := .fields #[.int lo t, .int hi u, .int 1 v] }).objs.size], _, _, H, rfl,
    I1.kept (t' := tk) fun b o e => Heap.get?_push_of_some _ e, turn_range _ lo (hi - lo).toNat, ?_, fun b hb => ?_, q⟩
  · have e1 : lo + ((0 : Nat) : Int) * 1 = lo := by simp
    have e2 : (((hi - lo).toNat : Nat) : Int) - ((0 : Nat) : Int) = Builtin.Range.rangeSize lo hi 1 := by rw [rangeSize_one]; split <;> omega
    show IsRangeIter _ _ (lo + ((0 : Nat) : Int) * 1) ((((hi - lo).toNat : Nat) : Int) - ((0 : Nat) : Int)) 1
    rw [e1, e2]
    exact Heap.get?_push_size _ rfl
  · have e : b = (s.heap.push { cls := .type "range", data := .fields #[.int lo t, .int hi u, .int 1 v] }).objs.size := by simpa using hb
    subst e
    exact I1.fpOk (Nat.le_refl _) (I1.hok.fresh (Nat.le_refl _))
def iRng1 (ta : TA) : TI := fun σ H R => ta σ H fun vs H1 => ∃ j : Int, vs = [.int j] ∧ -(2 ^ 62) ≤ j ∧ j < 2 ^ 62 ∧ R (Itr 0 j.toNat) H1
def iRng2 (ta : TA) : TI := fun σ H R => ta σ H fun vs H1 => ∃ i j : Int, vs = [.int i, .int j] ∧ (-(2 ^ 62) ≤ i ∧ i < 2 ^ 62 ∧ -(2 ^ 62) ≤ j ∧ j < 2 ^ 62) ∧ R (Itr i (j - i).toNat) H1
theorem pi_range1 {a : Expr} {ta : TA} {p pos : Pos} (hg : Gl X "range") (hm : X.mg "range" = none) (ha : PA X [a] ta) (hs : starEach [a] X.env = [(false, eval a X.env)] := by rfl) : PI X tg (.Call (.Name "range" p) [a] [] pos) (iRng1 ta) := by
  intro pins s σ H R I h
  refine Call_ (ld_blt I hg hm boot_range (PyProof.Rows.callWith_type1 (thn (ha pos pins s σ H _ I h) fun us s1 ⟨vs, H1, I1, r1, q1⟩ => ?_) hs rfl))
  obtain ⟨j, e, q1, q2, q⟩ := q1
  subst e
  cases r1 with
  | cons r rr =>
    cases rr
    obtain ⟨t, rfl⟩ := r
    exact call_range_1 (range_it I1 (by omega) (by omega) q1 q2 (by simpa using q))
theorem pi_range2 {a b : Expr} {ta : TA} {p pos : Pos} (hg : Gl X "range") (hm : X.mg "range" = none) (ha : PA X [a, b] ta) (hs : starEach [a, b] X.env = [(false, eval a X.env), (false, eval b X.env)] := by rfl) (hs2 : starEach [b] X.env = [(false, eval b X.env)] := by rfl) :
    PI X tg (.Call (.Name "range" p) [a, b] [] pos) (iRng2 ta) := by
  intro pins s σ H R I h
  refine Call_ (ld_blt I hg hm boot_range (PyProof.Rows.callWith_type1 (thn (ha pos pins s σ H _ I h) fun us s1 ⟨vs, H1, I1, r1, q1⟩ => ?_) (by rw [hs, hs2]) (by rw [hs2]; rfl)))
  obtain ⟨i, j, e, ⟨q1, q2, q3, q4⟩, q⟩ := q1
  subst e
  cases r1 with
  | cons r rr =>
    cases rr with
    | cons r' rr =>
      cases rr
      obtain ⟨t, rfl⟩ := r
      obtain ⟨t', rfl⟩ := r'
      exact call_range_2 (range_it I1 q1 q2 q3 q4 q)
/-! ### for -/
/-- W: the invariant by the turn and a measure; N: what the body is to reach -/
def tFor (wi : TI) (g : TG) (tb : TS) : TS := fun D σ H => wi σ H fun J H1 => ∃ W : Nat → Nat → St → Hp → Prop, (∃ m, W 0 m σ H1) ∧ ∀ i m σ H, W i m σ H →
  (J.stop i H ∧ D.nx σ H) ∨ (J.go i H ∧ ∃ N : St → Hp → Prop, (∀ σ' H', N σ' H' → ∃ m', m' < m ∧ W (i + 1) m' σ' H') ∧ ∀ x H', J.yld i H x H' → g x σ H' fun σ2 H2 => tb { D with nx := N, ct := N, bk := D.nx } σ2 H2)
/-- the records at fp as they stand -/
def pinsAt (fp : List Addr) (h : Heap) : List (Addr × Obj) := fp.filterMap fun b => (h.get? b).map fun o => (b, o)
theorem mem_pinsAt {fp : List Addr} {h : Heap} {b : Addr} {o : Obj} (hb : b ∈ fp) (e : h.get? b = some o) : (b, o) ∈ pinsAt fp h := List.mem_filterMap.mpr ⟨b, hb, by rw [e]; rfl⟩
theorem of_pinsAt {fp : List Addr} {h : Heap} {p : Addr × Obj} (hp : p ∈ pinsAt fp h) : p.1 ∈ fp ∧ h.get? p.1 = some p.2 := by
  obtain ⟨b, hb, e⟩ := List.mem_filterMap.mp hp
  cases q : h.get? b with
  | none => rw [q] at e; cases e
  | some o =>
    rw [q] at e
    have e' : (b, o) = p := Option.some.inj e
    subst e'
    exact ⟨hb, q⟩
theorem Inv.pinned {pins : List (Addr × Obj)} {σ : St} {H : Hp} {s : Shared} {fp : List Addr} (I : Inv X pins σ H s) (hf : ∀ b ∈ fp, FpOk X pins H b) (ho : ∀ b ∈ fp, ∃ o, s.heap.get? b = some o ∧ ∀ v, o.data ≠ .cell v) : Inv X (pins ++ pinsAt fp s.heap) σ H s :=
  I.pins_of fun p hp => (List.mem_append.mp hp).elim (fun z => I.pin p (List.mem_append_right _ z)) fun z => by
    obtain ⟨hb, e⟩ := of_pinsAt z
    obtain ⟨f0, f1, f2, _⟩ := hf p.1 hb
    obtain ⟨o, e', d⟩ := ho p.1 hb
    rw [e] at e'; cases e'
    exact ⟨e, f0, f1, f2, d⟩
theorem Inv.unpinned {pins pl : List (Addr × Obj)} {σ : St} {H : Hp} {s : Shared} (I : Inv X (pins ++ pl) σ H s) : Inv X pins σ H s := I.pins_of fun p hp => I.pin p (List.mem_append_right _ (List.mem_append_left _ hp))
theorem ps_for {iter : Expr} {body : List Stmt} {wi : TI} {g : TG} {tb : TS} {pos : Pos} (hp : PassesOwn (model X.prog X.w) X.A X.env X.xe) (hc : X.calm = true) (hi : PI X tg iter wi) (hg : PG X tg g) (hb : PSs X body tb)
    (hs : ∀ x, foldedSetIterable iter X.env x = pure x := by intro _; rfl) : PS X (.For tg iter body [] pos) (tFor wi g tb) := by
  intro pins s σ H D I h
  refine wpAny_For (thn (hi pins s σ H _ I h) fun v s1 h1 => thn h1 fun itv s2 h2 => ?_) hs
  obtain ⟨it, fp, tn, J, H2, e, I2, T, st2, f2, W, ⟨m0, w0⟩, turn⟩ := h2
  subst e
  -- what stays true of the iterator's objects through the loop
  have stat : ∀ {H' : Hp}, (∀ b ∈ fp, H' b = none) → ∀ b ∈ fp, FpOk X pins H' b := fun hn b hb => ⟨hn b hb, (f2 b hb).2⟩
  refine codeAny_forLoop_any (fun n s' => ∃ i σ' H', Inv X pins σ' H' s' ∧ tn i s'.heap ∧ (∀ b ∈ fp, H' b = none) ∧ W i n σ' H') ?_ m0 ⟨0, σ, H2, I2, st2, fun b hb => (f2 b hb).1, w0⟩
  rintro n s3 ⟨i, σ3, H3, I3, st3, fr3, w3⟩
  rcases turn i n σ3 H3 w3 with ⟨stop, qn⟩ | ⟨go, N, hN, step⟩
  · refine wpAny_passesOwn hp (thn (T.done X rfl rfl rfl hc i pins s3 σ3 H3 X.xe I3 (stat fr3) st3 stop) fun r s4 ⟨hr, I4⟩ => ?_)
    subst hr
    exact wpAny_execs_nil ⟨σ3, H3, I4, qn⟩
  · refine wpAny_passesOwn hp (thn (T.item X rfl rfl rfl hc i pins s3 σ3 H3 X.xe I3 (stat fr3) st3 go) fun r s4 ⟨u, hr, h4⟩ => ?_)
    subst hr
    refine wpAny_passesOwn hp (thn h4 fun _ s5 ⟨x, H5, I5, r5, y5, st5, fr5⟩ => ?_)
    have I5' := I5.pinned (stat fr5) (T.obj _ _ st5)
    refine wpAny_passesOwn hp (thn (hg _ s5 σ3 H5 x u _ I5' r5 (step x H5 y5)) fun _ s6 ⟨σ6, H6, I6, q6⟩ => ?_)
    refine wpAny_passesOwn hp (thn (hb _ s6 σ6 H6 _ I6 q6) fun f s7 q7 => ?_)
    have again : ∀ {σ7 : St} {H7 : Hp}, Inv X (pins ++ pinsAt fp s5.heap) σ7 H7 s7 → N σ7 H7 → ∃ m, m < n ∧ ∃ i σ' H', Inv X pins σ' H' s7 ∧ tn i s7.heap ∧ (∀ b ∈ fp, H' b = none) ∧ W i m σ' H' := fun {σ7 H7} I7 n7 => by
      obtain ⟨m', hm, w7⟩ := hN σ7 H7 n7
      refine ⟨m', hm, i + 1, σ7, H7, I7.unpinned, T.keep _ _ _ st5 fun b hb o e => (I7.pin (b, o) (List.mem_append_right _ (List.mem_append_right _ (mem_pinsAt hb e)))).1, fun b hb => ?_, w7⟩
      obtain ⟨o, e, d⟩ := T.obj _ _ st5 b hb
      exact (I7.pin (b, o) (List.mem_append_right _ (List.mem_append_right _ (mem_pinsAt hb e)))).2.1
    cases f with
    | next => obtain ⟨σ7, H7, I7, n7⟩ := q7; exact again I7 n7
    | cont => obtain ⟨σ7, H7, I7, n7⟩ := q7; exact again I7 n7
    | brk => obtain ⟨σ7, H7, I7, q7⟩ := q7; exact ⟨σ7, H7, I7.unpinned, q7⟩
    | ret v => obtain ⟨x7, σ7, H7, I7, r7, q7⟩ := q7; exact ⟨x7, σ7, H7, I7.unpinned, r7, q7⟩
end
/-! ### the forms one uses -/
/-- over a list that the body leaves as it is -/
theorem for_list {K : PySem.W.Frag} {a : Addr} {xs : List V} {g : TG} {tb : TS} {D : Ends} {σ : St} {H : Hp} (Pv : Nat → St → Hp → Prop) (h0 : Pv 0 σ H) (hl : ∀ i σ H, i ≤ xs.length → Pv i σ H → SqL K H a xs)
    (hs : ∀ i x σ H, xs[i]? = some x → Pv i σ H → g x σ H fun σ2 H2 => tb { D with nx := Pv (i + 1), ct := Pv (i + 1), bk := D.nx } σ2 H2) (hd : ∀ σ H, Pv xs.length σ H → D.nx σ H) :
    ∃ W : Nat → Nat → St → Hp → Prop, (∃ m, W 0 m σ H) ∧ ∀ i m σ H, W i m σ H →
      ((Itl K a).stop i H ∧ D.nx σ H) ∨ ((Itl K a).go i H ∧ ∃ N : St → Hp → Prop, (∀ σ' H', N σ' H' → ∃ m', m' < m ∧ W (i + 1) m' σ' H') ∧ ∀ x H', (Itl K a).yld i H x H' → g x σ H' fun σ2 H2 => tb { D with nx := N, ct := N, bk := D.nx } σ2 H2) := by
  refine ⟨fun i m σ H => m = xs.length - i ∧ i ≤ xs.length ∧ Pv i σ H, ⟨xs.length, by simp, Nat.zero_le _, h0⟩, ?_⟩
  rintro i m σ H ⟨rfl, hi, p⟩
  have q := hl i σ H hi p
  by_cases hlt : i < xs.length
  · refine .inr ⟨⟨xs, xs[i], q, by simp [hlt]⟩, Pv (i + 1), fun σ' H' p' => ⟨xs.length - (i + 1), by omega, rfl, hlt, p'⟩, fun x H' y => ?_⟩
    obtain ⟨e, y⟩ := y
    subst e
    exact hs i x σ _ (y xs q) p
  · have e : i = xs.length := by omega
    subst e
    exact .inl ⟨⟨xs, q, Nat.le_refl _⟩, hd σ H p⟩
theorem for_range {lo : Int} {n : Nat} {g : TG} {tb : TS} {D : Ends} {σ : St} {H : Hp} (Pv : Nat → St → Hp → Prop) (h0 : Pv 0 σ H)
    (hs : ∀ i σ H, i < n → Pv i σ H → g (.int (lo + i)) σ H fun σ2 H2 => tb { D with nx := Pv (i + 1), ct := Pv (i + 1), bk := D.nx } σ2 H2) (hd : ∀ σ H, Pv n σ H → D.nx σ H) :
    ∃ W : Nat → Nat → St → Hp → Prop, (∃ m, W 0 m σ H) ∧ ∀ i m σ H, W i m σ H →
      ((Itr lo n).stop i H ∧ D.nx σ H) ∨ ((Itr lo n).go i H ∧ ∃ N : St → Hp → Prop, (∀ σ' H', N σ' H' → ∃ m', m' < m ∧ W (i + 1) m' σ' H') ∧ ∀ x H', (Itr lo n).yld i H x H' → g x σ H' fun σ2 H2 => tb { D with nx := N, ct := N, bk := D.nx } σ2 H2) := by
  refine ⟨fun i m σ H => m = n - i ∧ i ≤ n ∧ Pv i σ H, ⟨n, by simp, Nat.zero_le _, h0⟩, ?_⟩
  rintro i m σ H ⟨rfl, hi, p⟩
  by_cases hlt : i < n
  · refine .inr ⟨hlt, Pv (i + 1), fun σ' H' p' => ⟨n - (i + 1), by omega, rfl, hlt, p'⟩, fun x H' y => ?_⟩
    obtain ⟨e, y⟩ := y
    subst e y
    exact hs i σ _ hlt p
  · have e : i = n := by omega
    subst e
    exact .inl ⟨Nat.le_refl _, hd σ H p⟩
end L2
namespace L2
open PySem PySem.Spec PyProof.Rows
abbrev R2 := V → V → Hp → VK → Prop
/-- a two-place operation on values: f is binaryOp op, inplaceOp op or compareOp op -/
def OpR (X : Cx) (f : Value → Value → Sem Value) (r : R2) : Prop :=
  ∀ (pins : List (Addr × Obj)) (s : Shared) (σ : St) (H : Hp) (x y : V) (v u : Value) (Q : VK), Inv X pins σ H s → RelV x v → RelV y u → r x y H Q →
    wpAny (model X.prog X.w) X.A (f v u) (EP X pins σ Q) X.xe s
/-- a one-place operation -/
def UnR (X : Cx) (f : Value → Sem Value) (r : V → Hp → VK → Prop) : Prop :=
  ∀ (pins : List (Addr × Obj)) (s : Shared) (σ : St) (H : Hp) (x : V) (v : Value) (Q : VK), Inv X pins σ H s → RelV x v → r x H Q →
    wpAny (model X.prog X.w) X.A (f v) (EP X pins σ Q) X.xe s
/-- a call of a value that is known (a builtin, a type) with values -/
def CallR (X : Cx) (f : Value) (r : List V → Hp → VK → Prop) : Prop :=
  ∀ (pins : List (Addr × Obj)) (s : Shared) (σ : St) (H : Hp) (xs : List V) (us : List Value) (Q : VK), Inv X pins σ H s → Vals xs us → r xs H Q →
    wpAny (model X.prog X.w) X.A (call f us) (EP X pins σ Q) X.xe s
/-- a value's truth -/
def TruR (X : Cx) (r : V → Hp → (Bool → Hp → Prop) → Prop) : Prop :=
  ∀ (pins : List (Addr × Obj)) (s : Shared) (σ : St) (H : Hp) (x : V) (v : Value) (Q : Bool → Hp → Prop), Inv X pins σ H s → RelV x v → r x H Q →
    wpAny (model X.prog X.w) X.A (truthy v) (TP X pins σ Q) X.xe s
def tOp (r : R2) (ta tb : TE) : TE := fun σ H Q => ta σ H fun x H1 => tb σ H1 fun y H2 => r x y H2 Q
def tUn (r : V → Hp → VK → Prop) (ta : TE) : TE := fun σ H Q => ta σ H fun x H1 => r x H1 Q
/-- ints in, under C, and a value out -/
def rI (C : Int → Int → Prop) (g : Int → Int → V) : R2 := fun x y H Q => ∃ i j, x = .int i ∧ y = .int j ∧ C i j ∧ Q (g i j) H
def rI0 (g : Int → Int → V) : R2 := fun x y H Q => ∃ i j, x = .int i ∧ y = .int j ∧ Q (g i j) H
def rU (g : Int → V) : V → Hp → VK → Prop := fun x H Q => ∃ i, x = .int i ∧ Q (g i) H
section
variable {X : Cx} {a b c : Expr} {ta tb tc : TE} {pos : Pos}
theorem binT (ha : PE X a ta) (hb : PE X b tb) {pins : List (Addr × Obj)} {s : Shared} {σ : St} {H : Hp} {R : V → V → Hp → Prop} (I : Inv X pins σ H s)
    (h : ta σ H fun x H1 => tb σ H1 fun y H2 => R x y H2) {Q : Value → Shared → Prop} {f : Value → Value → Sem Value}
    (hf : ∀ v u s2 x y H2, Inv X pins σ H2 s2 → RelV x v → RelV y u → R x y H2 → wpAny (model X.prog X.w) X.A (f v u) Q X.xe s2) :
    wpAny (model X.prog X.w) X.A (eval a X.env) (fun v s₁ => wpAny (model X.prog X.w) X.A (eval b X.env) (fun u s₂ => wpAny (model X.prog X.w) X.A (f v u) Q X.xe s₂) X.xe s₁) X.xe s := by
  refine thn (ha pins s σ H _ I h) fun v s1 ⟨x, H1, I1, r1, q1⟩ => ?_
  refine thn (hb pins s1 σ H1 _ I1 q1) fun u s2 ⟨y, H2, I2, r2, q2⟩ => ?_
  exact hf v u s2 x y H2 I2 r1 r2 q2
theorem pe_op {op : Operator} {r : R2} (ho : OpR X (binaryOp op) r) (ha : PE X a ta) (hb : PE X b tb) : PE X (.BinOp a op b pos) (tOp r ta tb) := by
  intro pins s σ H Q I h
  exact wpAny_BinOp (binT ha hb I h fun v u s2 x y H2 I2 rx ry q => ho pins s2 σ H2 x y v u Q I2 rx ry q)
theorem pe_un {op : UnaryOp} {r : V → Hp → VK → Prop} (ho : UnR X (unaryOp op) r) (ha : PE X a ta) : PE X (.UnaryOp op a pos) (tUn r ta) := by
  intro pins s σ H Q I h
  exact UnaryOp_ (thn (ha pins s σ H _ I h) fun v s1 ⟨x, H1, I1, r1, q1⟩ => ho pins s1 σ H1 x v Q I1 r1 q1)
/-! ### ints -/
theorem opI {f : Value → Value → Sem Value} {C : Int → Int → Prop} {g : Int → Int → Int}
    (rule : ∀ (i j : Int) (t u : Tok) (s : Shared) (Q : Value → Shared → Prop) (E : Value → Shared → Prop), C i j → Q (.int (g i j) s.toks) { s with toks := s.toks + 1 } → wpAny (model X.prog X.w) X.A (f (.int i t) (.int j u)) Q E s) :
    OpR X f (rI C fun i j => .int (g i j)) := by
  intro pins s σ H x y v u Q I rx ry h
  obtain ⟨i, j, rfl, rfl, hc, q⟩ := h
  obtain ⟨t, rfl⟩ := rx
  obtain ⟨t', rfl⟩ := ry
  exact rule i j t t' s _ _ hc ⟨.int (g i j), H, I.tok _, ⟨_, rfl⟩, q⟩
theorem opI0 {f : Value → Value → Sem Value} {g : Int → Int → Int}
    (rule : ∀ (i j : Int) (t u : Tok) (s : Shared) (Q : Value → Shared → Prop) (E : Value → Shared → Prop), Q (.int (g i j) s.toks) { s with toks := s.toks + 1 } → wpAny (model X.prog X.w) X.A (f (.int i t) (.int j u)) Q E s) :
    OpR X f (rI0 fun i j => .int (g i j)) := by
  intro pins s σ H x y v u Q I rx ry h
  obtain ⟨i, j, rfl, rfl, q⟩ := h
  obtain ⟨t, rfl⟩ := rx
  obtain ⟨t', rfl⟩ := ry
  exact rule i j t t' s _ _ ⟨.int (g i j), H, I.tok _, ⟨_, rfl⟩, q⟩
theorem opB0 {f : Value → Value → Sem Value} {g : Int → Int → Bool}
    (rule : ∀ (i j : Int) (t u : Tok) (s : Shared) (Q : Value → Shared → Prop) (E : Value → Shared → Prop), Q (.bool (g i j)) s → wpAny (model X.prog X.w) X.A (f (.int i t) (.int j u)) Q E s) :
    OpR X f (rI0 fun i j => .bl (g i j)) := by
  intro pins s σ H x y v u Q I rx ry h
  obtain ⟨i, j, rfl, rfl, q⟩ := h
  obtain ⟨t, rfl⟩ := rx
  obtain ⟨t', rfl⟩ := ry
  exact rule i j t t' s _ _ ⟨.bl (g i j), H, I, rfl, q⟩
def CMul (i j : Int) : Prop := (-(2 ^ 64) < i ∧ i < 2 ^ 64) ∨ (-(2 ^ 64) < j ∧ j < 2 ^ 64)
theorem CMul.ok {i j : Int} (h : CMul i j) : IntMulOk i j := by
  rcases h with ⟨h1, h2⟩ | ⟨h1, h2⟩
  · exact .of_left (intBits_le_64 h1 h2)
  · exact .of_right (intBits_le_64 h1 h2)
theorem two_pow_nn (k : Nat) : (0 : Int) ≤ 2 ^ k := by
  rw [two_pow_cast]
  exact Int.natCast_nonneg _
theorem op_add : OpR X (binaryOp .Add) (rI0 fun i j => .int (i + j)) := opI0 fun _ _ _ _ _ _ _ q => add_int q
theorem op_sub : OpR X (binaryOp .Sub) (rI0 fun i j => .int (i - j)) := opI0 fun _ _ _ _ _ _ _ q => sub_int q
theorem op_mul : OpR X (binaryOp .Mult) (rI CMul fun i j => .int (i * j)) := opI fun _ _ _ _ _ _ _ hc q => mul_int q hc.ok
/-- % by a positive divisor of any size -/
theorem op_mod : OpR X (binaryOp .Mod) (rI (fun _ j => 0 < j) fun i j => .int (i % j)) := opI fun i j _ _ _ _ _ hc q => by
  have h1 : (0 : Int) < j := hc
  exact mod_int' (by omega) (by rw [Int.fmod_eq_emod_of_nonneg i (by omega)]; exact q)
theorem op_shr : OpR X (binaryOp .RShift) (rI (fun _ j => 0 ≤ j) fun i j => .int (i / 2 ^ j.toNat)) := opI fun i j _ _ _ _ _ hc q =>
  rshift_int hc (by rw [Int.fdiv_eq_ediv_of_nonneg i (two_pow_nn _)]; exact q)
theorem op_and : OpR X (binaryOp .BitAnd) (rI0 fun i j => .int (Builtin.bitAnd i j)) := opI0 fun _ _ _ _ _ _ _ q => and_int q
theorem op_xor : OpR X (binaryOp .BitXor) (rI0 fun i j => .int (Builtin.bitXor i j)) := opI0 fun _ _ _ _ _ _ _ q => xor_int q
theorem unI {f : Value → Sem Value} {g : Int → Int}
    (rule : ∀ (i : Int) (t : Tok) (s : Shared) (Q : Value → Shared → Prop) (E : Value → Shared → Prop), Q (.int (g i) s.toks) { s with toks := s.toks + 1 } → wpAny (model X.prog X.w) X.A (f (.int i t)) Q E s) :
    UnR X f (rU fun i => .int (g i)) := by
  intro pins s σ H x v Q I rx h
  obtain ⟨i, rfl, q⟩ := h
  obtain ⟨t, rfl⟩ := rx
  exact rule i t s _ _ ⟨.int (g i), H, I.tok _, ⟨_, rfl⟩, q⟩
theorem un_neg : UnR X (unaryOp .USub) (rU fun i => .int (-i)) := unI fun _ _ _ _ _ q => neg_int q
/-! ### bools among ints: n += (a < b) -/
end
/-! ### comparisons -/
/-- the scalars that == tells apart as data does -/
def scal : V → V → Bool
  | .non, .non => true | .non, .int _ => true | .int _, .non => true | .non, .bl _ => true | .bl _, .non => true | .non, .str _ => true | .str _, .non => true
  | .int _, .int _ => true | .bl _, .bl _ => true | .str _, .str _ => true | .byt _, .byt _ => true
  | .int _, .str _ => true | .str _, .int _ => true | .bl _, .str _ => true | .str _, .bl _ => true
  | _, _ => false
def rEq : R2 := fun x y H Q => scal x y = true ∧ Q (.bl (decide (x = y))) H
def rNe : R2 := fun x y H Q => scal x y = true ∧ Q (.bl (!decide (x = y))) H
theorem dec_int {i j : Int} : decide (V.int i = V.int j) = (i == j) := by
  rw [Bool.eq_iff_iff]
  simp
theorem dec_bl {i j : Bool} : decide (V.bl i = V.bl j) = (i == j) := by
  rw [Bool.eq_iff_iff]
  simp
theorem dec_str {i j : Str} : decide (V.str i = V.str j) = (i == j) := by
  rw [Bool.eq_iff_iff]
  simp
theorem dec_byt {i j : Array UInt8} : decide (V.byt i = V.byt j) = (i.toList == j.toList) := by
  rw [Bool.eq_iff_iff]
  cases i
  cases j
  simp
section
variable {X : Cx} {a b c : Expr} {ta tb tc : TE} {pos : Pos}
theorem fin_bl {pins : List (Addr × Obj)} {σ : St} {H : Hp} {s : Shared} {Q : VK} {k k' : Bool} (I : Inv X pins σ H s) (q : Q (.bl k) H) (e : k = k') : EP X pins σ Q (.bool k') s := by
  subst e
  exact ⟨.bl k, H, I, rfl, q⟩
theorem op_eq : OpR X (compareOp .Eq) rEq := by
  intro pins s σ H x y v u Q I rx ry h
  obtain ⟨hs, q⟩ := h
  cases x with
  | non =>
    cases rx
    cases y with
    | non => cases ry; exact PySem.EqNone.eq_none_none (fin_bl I q (by simp))
    | bl j => cases ry; exact PySem.EqNone.eq_none_bool (fin_bl I q (by simp))
    | int j => obtain ⟨t', rfl⟩ := ry; exact PySem.EqNone.eq_none_int (fin_bl I q (by simp))
    | str j => obtain ⟨t', rfl⟩ := ry; exact PySem.EqNone.eq_none_str (fin_bl I q (by simp))
    | _ => exact absurd (show false = true from hs) Bool.false_ne_true
  | bl i =>
    cases rx
    cases y with
    | non => cases ry; exact PySem.EqNone.eq_bool_none (fin_bl I q (by simp))
    | bl j => cases ry; exact eq_bool (fin_bl I q dec_bl)
    | str j => obtain ⟨t', rfl⟩ := ry; exact PySem.EqMixed.eq_bool_str (fin_bl I q (by simp))
    | _ => exact absurd (show false = true from hs) Bool.false_ne_true
  | int i =>
    obtain ⟨t, rfl⟩ := rx
    cases y with
    | non => cases ry; exact PySem.EqNone.eq_int_none (fin_bl I q (by simp))
    | int j => obtain ⟨t', rfl⟩ := ry; exact eq_int (fin_bl I q dec_int)
    | str j => obtain ⟨t', rfl⟩ := ry; exact PySem.EqMixed.eq_int_str (fin_bl I q (by simp))
    | _ => exact absurd (show false = true from hs) Bool.false_ne_true
  | str i =>
    obtain ⟨t, rfl⟩ := rx
    cases y with
    | non => cases ry; exact PySem.EqNone.eq_str_none (fin_bl I q (by simp))
    | bl j => cases ry; exact PySem.EqMixed.eq_str_bool (fin_bl I q (by simp))
    | int j => obtain ⟨t', rfl⟩ := ry; exact PySem.EqMixed.eq_str_int (fin_bl I q (by simp))
    | str j => obtain ⟨t', rfl⟩ := ry; exact eq_str (fin_bl I q dec_str)
    | _ => exact absurd (show false = true from hs) Bool.false_ne_true
  | byt i =>
    obtain ⟨t, rfl⟩ := rx
    cases y with
    | byt j => obtain ⟨t', rfl⟩ := ry; exact PySem.W.eq_bytes (fin_bl I q dec_byt)
    | _ => exact absurd (show false = true from hs) Bool.false_ne_true
  | _ => cases y <;> exact absurd (show false = true from hs) Bool.false_ne_true
theorem op_ne : OpR X (compareOp .NotEq) rNe := by
  intro pins s σ H x y v u Q I rx ry h
  obtain ⟨hs, q⟩ := h
  cases x with
  | non =>
    cases rx
    cases y with
    | non => cases ry; exact PySem.EqNone.ne_none_none (fin_bl I q (by simp))
    | bl j => cases ry; exact PySem.EqNone.ne_none_bool (fin_bl I q (by simp))
    | int j => obtain ⟨t', rfl⟩ := ry; exact PySem.EqNone.ne_none_int (fin_bl I q (by simp))
    | str j => obtain ⟨t', rfl⟩ := ry; exact PySem.EqNone.ne_none_str (fin_bl I q (by simp))
    | _ => exact absurd (show false = true from hs) Bool.false_ne_true
  | bl i =>
    cases rx
    cases y with
    | non => cases ry; exact PySem.EqNone.ne_bool_none (fin_bl I q (by simp))
    | bl j => cases ry; exact ne_bool (fin_bl I q (congrArg not dec_bl))
    | str j => obtain ⟨t', rfl⟩ := ry; exact PySem.EqMixed.ne_bool_str (fin_bl I q (by simp))
    | _ => exact absurd (show false = true from hs) Bool.false_ne_true
  | int i =>
    obtain ⟨t, rfl⟩ := rx
    cases y with
    | non => cases ry; exact PySem.EqNone.ne_int_none (fin_bl I q (by simp))
    | int j => obtain ⟨t', rfl⟩ := ry; exact ne_int (fin_bl I q (congrArg not dec_int))
    | str j => obtain ⟨t', rfl⟩ := ry; exact PySem.EqMixed.ne_int_str (fin_bl I q (by simp))
    | _ => exact absurd (show false = true from hs) Bool.false_ne_true
  | str i =>
    obtain ⟨t, rfl⟩ := rx
    cases y with
    | non => cases ry; exact PySem.EqNone.ne_str_none (fin_bl I q (by simp))
    | bl j => cases ry; exact PySem.EqMixed.ne_str_bool (fin_bl I q (by simp))
    | int j => obtain ⟨t', rfl⟩ := ry; exact PySem.EqMixed.ne_str_int (fin_bl I q (by simp))
    | str j => obtain ⟨t', rfl⟩ := ry; exact ne_str (fin_bl I q (congrArg not dec_str))
    | _ => exact absurd (show false = true from hs) Bool.false_ne_true
  | byt i =>
    obtain ⟨t, rfl⟩ := rx
    cases y with
    | byt j => obtain ⟨t', rfl⟩ := ry; exact PySem.W.ne_bytes (fin_bl I q (congrArg not dec_byt))
    | _ => exact absurd (show false = true from hs) Bool.false_ne_true
  | _ => cases y <;> exact absurd (show false = true from hs) Bool.false_ne_true
theorem op_lt : OpR X (compareOp .Lt) (rI0 fun i j => .bl (decide (i < j))) := opB0 fun _ _ _ _ _ _ _ q => lt_int q
theorem op_le : OpR X (compareOp .LtE) (rI0 fun i j => .bl (decide (i ≤ j))) := opB0 fun _ _ _ _ _ _ _ q => le_int q
theorem nomark (b : Expr) {op : CmpOp} (h : op ≠ .In := by decide) (h2 : op ≠ .NotIn := by decide) : behindInMarks op b = false := by
  have e1 : (op == CmpOp.In) = false := by cases op <;> first | rfl | exact absurd rfl h
  have e2 : (op == CmpOp.NotIn) = false := by cases op <;> first | rfl | exact absurd rfl h2
  cases b <;> simp [behindInMarks, e1, e2]
/-- a comparison as a value; hm: nomark b, or (for in, not in) by with_unfolding_all rfl -/
theorem pe_cmpR {op : CmpOp} {r : R2} (ho : OpR X (compareOp op) r) (ha : PE X a ta) (hb : PE X b tb) (hm : behindInMarks op b = false) : PE X (.Compare a [op] [b] pos) (tOp r ta tb) := by
  intro pins s σ H Q I h
  exact wpAny_Compare1 (binT ha hb I h fun v u s2 x y H2 I2 rx ry q => ho pins s2 σ H2 x y v u Q I2 rx ry q) hm
/-- a reading of a value as a test -/
def tTest (t : TE) : TT := fun σ H Q => t σ H fun x H' => ∃ k, x = .bl k ∧ Q k H'
theorem pt_cmpR {op : CmpOp} {r : R2} (ho : OpR X (compareOp op) r) (ha : PE X a ta) (hb : PE X b tb) (hm : behindInMarks op b = false) : PT X (.Compare a [op] [b] pos) (tTest (tOp r ta tb)) := by
  intro pins s σ H Q I h
  refine wpAny_isTrue_Compare1 (thn (ha pins s σ H _ I h) fun v s1 ⟨x, H1, I1, r1, q1⟩ => thn (hb pins s1 σ H1 _ I1 q1) fun u s2 ⟨y, H2, I2, r2, q2⟩ =>
    thn (ho pins s2 σ H2 x y v u _ I2 r1 r2 q2) fun c s3 ⟨z, H3, I3, r3, k, e, q3⟩ => ?_) hm
  subst e
  cases r3
  exact wpAny_truthy_bool ⟨H3, I3, q3⟩
/-- a op1 b op2 c -/
def tChain (r r' : R2) (ta tb tc : TE) : TE := fun σ H Q => ta σ H fun x H1 => tb σ H1 fun y H2 => r x y H2 fun z H3 => ∃ k, z = .bl k ∧
  (if k = true then tc σ H3 fun w' H4 => r' y w' H4 Q else Q (.bl false) H3)
theorem pe_chain {op op' : CmpOp} {r r' : R2} (ho : OpR X (compareOp op) r) (ho' : OpR X (compareOp op') r') (ha : PE X a ta) (hb : PE X b tb) (hc : PE X c tc)
    (hm : lastMarks [op, op'] [b, c] = false := by with_unfolding_all rfl) : PE X (.Compare a [op, op'] [b, c] pos) (tChain r r' ta tb tc) := by
  intro pins s σ H Q I h
  refine Compare_chain (thn (ha pins s σ H _ I h) fun v s1 ⟨x, H1, I1, r1, q1⟩ => chain_link (thn (hb pins s1 σ H1 _ I1 q1) fun u s2 ⟨y, H2, I2, r2, q2⟩ =>
    thn (ho pins s2 σ H2 x y v u _ I2 r1 r2 q2) fun d s3 ⟨z, H3, I3, r3, k, e, q3⟩ => ?_)) hm
  subst e
  cases r3
  refine wpAny_truthy_bool ?_
  cases k with
  | false => exact ite_ff ⟨.bl false, H3, I3, rfl, q3⟩
  | true => exact ite_tt (chain_last (thn (hc pins s3 σ H3 _ I3 q3) fun w' s4 ⟨z', H4, I4, r4, q4⟩ => ho' pins s4 σ H4 y z' u w' Q I4 r2 r4 q4))
/-! ### truth -/
/-- a value's truth by the abstract heap -/
def TruV (K : PySem.W.Frag) (x : V) (H : Hp) (k : Bool) : Prop :=
  match x with
  | .non => k = false
  | .bl b => k = b
  | .int i => k = (i != 0)
  | .str y => y.length ≤ sizeLine ∧ k = ((y.length : Int) != 0)
  | .byt y => y.size ≤ sizeLine ∧ k = ((y.size : Int) != 0)
  | .ref p => (∃ xs, SqL K H p xs ∧ k = !xs.isEmpty) ∨ (∃ xs, SqT K H p xs ∧ k = !xs.isEmpty) ∨ ∃ kvs, H p = some (.dK kvs) ∧ k = !kvs.isEmpty
  | _ => False
theorem isEmpty_kv {κ : Type} {kvs : List (κ × V)} {vs : List (κ × Value)} (r : KV kvs vs) : (!vs.isEmpty) = !kvs.isEmpty := by
  cases r <;> rfl
theorem isEmpty_of {xs : List V} {its : List Value} (r : Vals xs its) : (!its.toArray.isEmpty) = !xs.isEmpty := by
  cases r <;> simp
theorem line63 : (sizeLine : Nat) < 2 ^ 63 := by rw [sizeLine_eq]; decide
theorem tru_ok : TruR X (fun x H Q => ∃ k, TruV X.K x H k ∧ Q k H) := by
  intro pins s σ H x v Q I rx h
  obtain ⟨k, e, q⟩ := h
  have hl := line63
  have hs : sizeLine = 16777216 := sizeLine_eq
  cases x with
  | non =>
    cases rx
    have e' : k = false := e
    subst e'
    exact truthy_none ⟨H, I, q⟩
  | bl b =>
    cases rx
    have e' : k = b := e
    subst e'
    exact wpAny_truthy_bool ⟨H, I, q⟩
  | int i =>
    obtain ⟨t, rfl⟩ := rx
    have e' : k = (i != 0) := e
    subst e'
    exact PySem.P.truthy_int ⟨H, I, q⟩
  | str y =>
    obtain ⟨t, rfl⟩ := rx
    obtain ⟨hy, e'⟩ : y.length ≤ sizeLine ∧ k = ((y.length : Int) != 0) := e
    subst e'
    exact PySem.P.truthy_str (by omega) ⟨H, I.tok _, q⟩
  | byt y =>
    obtain ⟨t, rfl⟩ := rx
    obtain ⟨hy, e'⟩ : y.size ≤ sizeLine ∧ k = ((y.size : Int) != 0) := e
    subst e'
    exact PySem.W.truthy_bytes (by omega) ⟨H, I.tok _, q⟩
  | ref p =>
    cases rx
    have e' : (∃ xs, SqL X.K H p xs ∧ k = !xs.isEmpty) ∨ (∃ xs, SqT X.K H p xs ∧ k = !xs.isEmpty) ∨ ∃ kvs, H p = some (.dK kvs) ∧ k = !kvs.isEmpty := e
    rcases e' with ⟨xs, hx, e'⟩ | ⟨xs, hx, e'⟩ | ⟨kvs, hx, e'⟩
    · subst e'
      obtain ⟨its, r, pl, hz⟩ := I.list hx
      have hlen := r.length
      exact wpAny_truthy_list pl.isList (by simp only [List.size_toArray]; omega) ⟨H, I.tok _, by rw [isEmpty_of r]; exact q⟩
    · subst e'
      obtain ⟨its, r, pl, hz⟩ := I.tuple hx
      have hlen := r.length
      exact truthy_tuple pl (by simp only [List.size_toArray]; omega) ⟨H, I.tok _, by rw [isEmpty_of r]; exact q⟩
    · subst e'
      obtain ⟨hz, hS, vs, r, m⟩ : kvs.length ≤ sizeLine ∧ (p == sysModules) = false ∧ ∃ vs, KV kvs vs ∧ s.heap.DictOf (mixKind X.prog X.w) p vs := I.hok p _ hx
      have hlen : kvs.length = vs.length := Paired.length r
      exact wpAny_truthy_dict hS m (by omega) ⟨H, I.tok _, by rw [isEmpty_kv r]; exact q⟩
  | _ => exact (show False from e).elim
/-- any expression whose test is its value's truth (a name, a call, a subscript, a field ..: he by fun _ => rfl) -/
theorem pt_truth (ha : PE X a ta) (he : ∀ whole, isTrue a X.env whole = (do let v ← whole; standAt a.pos; holding [v] (truthy v))) :
    PT X a (fun σ H Q => ta σ H fun x H' => ∃ k, TruV X.K x H' k ∧ Q k H') := by
  intro pins s σ H Q I h
  exact isTrue_plain (thn (ha pins s σ H _ I h) fun v s1 ⟨x, H1, I1, r1, q1⟩ => tru_ok pins s1 σ H1 x v Q I1 r1 q1) (he _)
/-! ### strs and bytes -/
/-! ### scalar builtins, by CallR -/
theorem vals1 {x : V} {us : List Value} (r : Vals [x] us) : ∃ u, us = [u] ∧ RelV x u := by
  cases r with
  | cons r1 r2 => cases r2; exact ⟨_, rfl, r1⟩
end
end L2
namespace L2
open PySem PySem.Spec PyProof.Rows
/-! ### an instance, its attributes a map -/
structure ObjM (h : Heap) (x dx C : Addr) (mA : Str → Option Value) : Prop where
  obj : h.get? x = some (PySem.W.instObj C dx)
  ns : h.Ns1 dx mA
  ne : dx ≠ x
theorem lookIn_ns {h : Heap} {dx : Addr} {mA : Str → Option Value} (n : h.Ns1 dx mA) : ∃ od, h.get? dx = some od ∧ ∀ name, PySem.W.lookIn name od = some (mA name) := by
  obtain ⟨o, es, ep, ho, hd, hk, _, hm⟩ := n
  refine ⟨o, ho, fun name => ?_⟩
  have e := hm name
  unfold nsFind findBy at e
  rw [← Array.find?_toList] at e
  unfold PySem.W.lookIn
  rw [hd]
  dsimp only
  split
  · rename_i y q
    rw [q] at e
    exact congrArg some e
  · rename_i q
    rw [q] at e
    have a : es.toList.any (·.refKey) = false := by
      rw [List.any_eq_false]
      intro y hy
      obtain ⟨z, t, hkey⟩ := hk y (Array.mem_toList_iff.mp hy)
      simp [DictEntry.refKey, hkey]
    have a' : ¬ es.toList.any (·.refKey) = true := by rw [a]; exact Bool.false_ne_true
    rw [if_neg a']
    exact congrArg some e
theorem ObjM.look {h : Heap} {x dx C : Addr} {mA : Str → Option Value} (I : ObjM h x dx C mA) : ∃ od, PySem.W.InstAt h x (PySem.W.instObj C dx) C (some od) ∧ ∀ name, PySem.W.lookIn name od = some (mA name) :=
  let ⟨od, ho, hl⟩ := lookIn_ns I.ns
  ⟨od, ⟨I.obj, rfl, rfl, ho⟩, hl⟩
section
variable {prog : Program} {w : World} {A : Around} {E : Value → Shared → Prop} {s : Shared} {K : PySem.W.Frag} {x dx C f : Addr} {mA : Str → Option Value} {name : Str} {v : Value}
theorem get_map {expr : Bool} {Q : Value → Shared → Prop} (X : K.In s.heap) (I : ObjM s.heap x dx C mA) (hg : PySem.W.plainGet K C name = true) (hh : PySem.W.hasDictIn K C = true)
    (ha : PySem.W.findIn K (.ref C) name = some none) (hv : mA name = some v) (hv' : PySem.W.handedIn v = true) (h : Q v { s with toks := s.toks + 1 }) :
    wpAny (model prog w) A (getAttr (.ref x) name expr) Q E s := by
  obtain ⟨od, J, hl⟩ := I.look
  exact PySem.W.get_value X J (PySem.W.plainGet_of hg).1 (PySem.W.findObj_own hh ha rfl (by rw [hl, hv])) hv' h
theorem get_meth {pl : Sem Bool} {Q : Value × List Value → Shared → Prop} (X : K.In s.heap) (I : ObjM s.heap x dx C mA) (hg : PySem.W.plainGet K C name = true)
    (hf : PySem.W.findIn K (.ref C) name = some (some (.ref f))) (ht : PySem.W.isFn K (.ref f) = true) (hv : mA name = none) (h : Q (.ref f, [.ref x]) s) :
    wpAny (model prog w) A (getMethod (.ref x) name pl) Q E s := by
  obtain ⟨od, J, hl⟩ := I.look
  exact PySem.W.method_fn X J (PySem.W.plainGet_of hg).1 (PySem.W.plainGet_of hg).2 hf (beq_iff_eq.mp ht) (by show (PySem.W.lookIn name od).map (·.isSome) = some false; rw [hl, hv]; rfl) h
theorem set_map {ns : List Str} {Q : Unit → Shared → Prop} (X : K.In s.heap) (I : ObjM s.heap x dx C mA)
    (hs : PySem.W.findIn K (.ref C) "__setattr__" = some (some (.builtin "object.__setattr__"))) (hp : PySem.W.plainOver K C = true) (ht : PySem.W.takerIn K C name = some none) (hh : PySem.W.hasDictIn K C = true)
    (hw : PySem.Within mA ns) (hsz : ns.length ≤ sizeLine)
    (h : ∀ h', ObjM h' x dx C (fun y => if y = name then some v else mA y) → Heap.SameBut dx s.heap h' → Q () { s with heap := h', toks := s.toks + 2 }) :
    wpAny (model prog w) A (setAttr (.ref x) name v) Q E s := by
  obtain ⟨od, J, hl⟩ := I.look
  refine PySem.W.set_plain X J hs (PySem.W.osa_open (s := { s with toks := s.toks + 1 }) (r := none) X J hp ht fun b => ?_)
  obtain ⟨cd, hc, hd'⟩ := PySem.W.any_some hh
  have hx : s.heap.get? x = some ⟨.ref C, some dx, .plain, #[]⟩ := I.obj
  refine wpAny_bind (wpAny_pure (wpAny_bind (wpAny_bind (wpAny_loadPart hx (wpAny_bind (PySem.W.Looks.here (s := { s with toks := s.toks + 1 }) (PySem.W.looks_clsIn X hc) ?_))))))
  rw [hd']
  refine wpAny_pure (a := some dx) (wpAny_bind (wpAny_pure (wpAny_bind ?_)))
  refine wpAny_nsSet1 (s := { s with toks := s.toks + 1 }) I.ns fun h' hn2 hs2 => ?_
  obtain ⟨oD, esD, epD, hoD, hdD, hcD⟩ := hn2.count (PySem.Within.cons name v hw)
  refine wpAny_bind (wpAny_lookBehind hoD (by rw [hdD]; exact pastItsLine_dict (Nat.le_trans hcD (by rw [List.length_cons]; omega))) ?_)
  exact wpAny_pure (h _ ⟨(hs2.2 _ (Ne.symm I.ne)).trans I.obj, hn2, I.ne⟩ hs2)
/-- C(..): the dict at the heap's end, the instance behind it; then its __init__ -/
theorem make_map {R : Result → Shared → Prop} {vs : List Value} {kw : List (Str × Value)} (X : K.In s.heap) (hm : PySem.W.makesIn K C = true)
    (hi : PySem.W.findIn K (.ref C) "__init__" = some (some (.ref f))) (hf : PySem.W.typeIn K (.ref f) = some (.type "function"))
    (h : codeAny (model prog w) (A.under (.builtin "type.__call__" ⟨.ref C :: vs, kw⟩)) (.call (.ref f) ⟨.ref (s.heap.objs.size + 1) :: vs, kw⟩) (PySem.W.InitBack (s.heap.objs.size + 1) R)
      { s with heap := (s.heap.push PySem.W.emptyDict).push (PySem.W.instObj C s.heap.objs.size) }) :
    codeAny (model prog w) A (.call (.ref C) ⟨vs, kw⟩) R s := by
  obtain ⟨hh, g, d, t, os⟩ := s
  exact PySem.W.make_core (PySem.W.makes_of X hm) (PySem.W.looks_findIn X hi) (fun self => PySem.W.bind_fn X self hf) (.inl rfl) h
end
/-! ### the attributes as a list of pairs -/
def putF (f : Str) (v : V) : List (Str × V) → List (Str × V)
  | [] => [(f, v)]
  | (g, x) :: r => if g = f then (g, v) :: r else (g, x) :: putF f v r
theorem lookup_putF (f g : Str) (v : V) : ∀ fs : List (Str × V), (putF f v fs).lookup g = if g = f then some v else fs.lookup g
  | [] => by
    show List.lookup g [(f, v)] = _
    by_cases h : g = f
    · have hb : (g == f) = true := beq_iff_eq.mpr h
      simp only [List.lookup, hb, if_pos h]
    · have hb : (g == f) = false := beq_eq_false_iff_ne.mpr h
      simp only [List.lookup, hb, if_neg h]
  | (k, x) :: r => by
    have ih := lookup_putF f g v r
    rw [show putF f v ((k, x) :: r) = (if k = f then (k, v) :: r else (k, x) :: putF f v r) from rfl]
    by_cases hk : k = f
    · rw [if_pos hk]
      by_cases h : g = k
      · have hb : (g == k) = true := beq_iff_eq.mpr h
        simp only [List.lookup, hb, if_pos (h.trans hk)]
      · have hb : (g == k) = false := beq_eq_false_iff_ne.mpr h
        simp only [List.lookup, hb, if_neg (fun e : g = f => h (e.trans hk.symm))]
    · rw [if_neg hk]
      by_cases h : g = k
      · have hb : (g == k) = true := beq_iff_eq.mpr h
        simp only [List.lookup, hb, if_neg (fun e : g = f => hk (h.symm.trans e))]
      · have hb : (g == k) = false := beq_eq_false_iff_ne.mpr h
        simp only [List.lookup, hb]
        exact ih
theorem keys_putF (f : Str) (v : V) : ∀ fs : List (Str × V), f ∈ (putF f v fs).map (·.1) ∧ ∀ g, g ∈ fs.map (·.1) → g ∈ (putF f v fs).map (·.1)
  | [] => ⟨by simp [putF], fun g h => by simp at h⟩
  | (k, x) :: r => by
    obtain ⟨i1, i2⟩ := keys_putF f v r
    rw [show putF f v ((k, x) :: r) = (if k = f then (k, v) :: r else (k, x) :: putF f v r) from rfl]
    by_cases hk : k = f
    · rw [if_pos hk]
      subst hk
      exact ⟨by simp, fun g h => by simpa using h⟩
    · rw [if_neg hk]
      refine ⟨?_, fun g h => ?_⟩
      · rw [List.map_cons]
        exact List.mem_cons_of_mem _ i1
      · rw [List.map_cons] at h ⊢
        rcases List.mem_cons.mp h with e | e
        · exact List.mem_cons.mpr (.inl e)
        · exact List.mem_cons_of_mem _ (i2 g e)
theorem length_putF (f : Str) (v : V) : ∀ fs : List (Str × V), (putF f v fs).length ≤ fs.length + 1
  | [] => by simp [putF]
  | (k, x) :: r => by
    have ih := length_putF f v r
    rw [show putF f v ((k, x) :: r) = (if k = f then (k, v) :: r else (k, x) :: putF f v r) from rfl]
    by_cases hk : k = f
    · rw [if_pos hk, List.length_cons, List.length_cons]; omega
    · rw [if_neg hk, List.length_cons, List.length_cons]; omega
theorem RelO.some_of {v : V} {o : Option Value} (r : RelO (some v) o) : ∃ u, o = some u ∧ RelV v u := by
  cases o with
  | none => exact (show False from r).elim
  | some u => exact ⟨u, rfl, r⟩
theorem RelO.none_of {o : Option Value} (r : RelO none o) : o = none := by
  cases o with
  | none => rfl
  | some u => exact (show False from r).elim
theorem handed_of {v : V} {u : Value} (r : RelV v u) : PySem.W.handedIn u = true := by
  cases v with
  | non => cases (show u = Value.none from r); rfl
  | bl b => cases (show u = Value.bool b from r); rfl
  | int i => obtain ⟨t, e⟩ := (show ∃ t, u = Value.int i t from r); cases e; rfl
  | str x => obtain ⟨t, e⟩ := (show ∃ t, u = Value.str x t from r); cases e; rfl
  | byt b => obtain ⟨t, e⟩ := (show ∃ t, u = Value.bytes b t from r); cases e; rfl
  | flt b => obtain ⟨t, e⟩ := (show ∃ t, u = Value.float b t from r); cases e; rfl
  | ref a => cases (show u = Value.ref a from r); rfl
  | ty n => cases (show u = Value.type n from r); rfl
section
variable {P : Program} {w : World} {H H' : Hp} {h h' : Heap} {a C dx : Addr} {fs fs' : List (Str × V)}
theorem ins_get (hok : HOk P w H h) (e : H a = some (.ins C dx fs)) : ∃ mA, ObjM h a dx C mA ∧ (∀ f, RelO (fs.lookup f) (mA f)) ∧ PySem.Within mA (fs.map (·.1)) ∧ fs.length ≤ 1000 ∧ H dx = some (.own a) := by
  obtain ⟨d, z, ne, ob, mA, n, r, q⟩ := (show ObjOk P w H h a (.ins C dx fs) from hok a _ e)
  exact ⟨mA, ⟨ob, n, ne⟩, r, q, z, d⟩
end
/-! ### what of the text a class must have -/
structure Cls (K : PySem.W.Frag) (C : Addr) : Prop where
  pg : PySem.W.plainGet K C Str.empty = true
  hd : PySem.W.hasDictIn K C = true
  po : PySem.W.plainOver K C = true
  sa : PySem.W.findIn K (.ref C) "__setattr__" = some (some (.builtin "object.__setattr__"))
theorem Cls.get {K : PySem.W.Frag} {C : Addr} (c : Cls K C) (f : Str) : PySem.W.plainGet K C f = true := c.pg
/-- no class of it has the name -/
def NoAttr (K : PySem.W.Frag) (C : Addr) (f : Str) : Prop := PySem.W.findIn K (.ref C) f = some none
theorem NoAttr.taker {K : PySem.W.Frag} {C : Addr} {f : Str} (n : NoAttr K C f) : PySem.W.takerIn K C f = some none := by
  unfold PySem.W.takerIn
  rw [show PySem.W.findIn K (.ref C) f = some none from n]
  rfl
/-- a method: a plain def of the class or of one above it -/
structure Meth (K : PySem.W.Frag) (C : Addr) (m : Str) (f : Addr) : Prop where
  at_ : PySem.W.findIn K (.ref C) m = some (some (.ref f))
  fn : PySem.W.isFn K (.ref f) = true
  kp : PySem.W.keepIn K (.ref f) = true
section
variable {X : Cx} {pins : List (Addr × Obj)} {σ : St} {H : Hp} {s : Shared} {a C dx : Addr} {fs : List (Str × V)} {f : Str} {v : V} {A : Around} {E : Value → Shared → Prop}
theorem getattr_ok {b : Bool} {Q : Value → Shared → Prop} (I : Inv X pins σ H s) (e : H a = some (.ins C dx fs)) (c : Cls X.K C) (n : NoAttr X.K C f) (l : fs.lookup f = some v)
    (h : ∀ u s', Inv X pins σ H s' → RelV v u → Q u s') : wpAny (model X.prog X.w) A (getAttr (.ref a) f b) Q E s := by
  obtain ⟨mA, O, r, _, _, _⟩ := ins_get I.hok e
  obtain ⟨u, hu, ru⟩ := RelO.some_of (v := v) (o := mA f) (by rw [← l]; exact r f)
  exact get_map I.kIn O (c.get f) c.hd n hu (handed_of ru) (h u _ (I.tok _) ru)
theorem getmeth_ok {m : Str} {g : Addr} {pl : Sem Bool} {Q : Value × List Value → Shared → Prop} (I : Inv X pins σ H s) (e : H a = some (.ins C dx fs)) (c : Cls X.K C) (k : Meth X.K C m g) (l : fs.lookup m = none)
    (h : Q (.ref g, [.ref a]) s) : wpAny (model X.prog X.w) A (getMethod (.ref a) m pl) Q E s := by
  obtain ⟨mA, O, r, _, _, _⟩ := ins_get I.hok e
  have hn : mA m = none := RelO.none_of (by rw [← l]; exact r m)
  exact get_meth I.kIn O (c.get m) k.at_ k.fn hn h
theorem setattr_ok {y : V} {u : Value} {Q : Unit → Shared → Prop} (I : Inv X pins σ H s) (e : H a = some (.ins C dx fs)) (c : Cls X.K C) (n : NoAttr X.K C f) (hl : fs.length < 1000) (ry : RelV y u)
    (h : ∀ s', Inv X pins σ (upd H a (.ins C dx (putF f y fs))) s' → Q () s') : wpAny (model X.prog X.w) A (setAttr (.ref a) f u) Q E s := by
  obtain ⟨mA, O, r, wi, _, ho⟩ := ins_get I.hok e
  have hz : (fs.map (·.1)).length ≤ sizeLine := by rw [List.length_map, sizeLine_eq]; omega
  refine set_map I.kIn O c.sa c.po n.taker c.hd wi hz fun h' O' sb => h _ ?_
  have hd : ∃ o, h'.get? dx = some o := let ⟨o, _, _, e', _⟩ := O'.ns; ⟨o, e'⟩
  refine I.write (x := a) (e := dx) (by rw [e]; exact True.intro) (.inr ho) (fun b q hb z => (sb.2 b hb).trans z) hd ?_
  refine ⟨by rw [upd_ne O.ne]; exact ho, ?_, O.ne, O'.obj, _, O'.ns, fun g => ?_, fun g hg => ?_⟩
  · have := length_putF f y fs; omega
  · show RelO ((putF f y fs).lookup g) (if g = f then some u else mA g)
    rw [lookup_putF]
    by_cases q : g = f
    · rw [if_pos q, if_pos q]; exact ry
    · rw [if_neg q, if_neg q]; exact r g
  · by_cases q : g = f
    · rw [q]; exact (keys_putF f y fs).1
    · refine (keys_putF f y fs).2 g (wi g fun z => hg ?_)
      show (if g = f then some u else mA g) = none
      rw [if_neg q]; exact z
/-- a new instance, tracked, without attributes -/
theorem Inv.made (I : Inv X pins σ H s) : Inv X pins σ (upd (upd H s.heap.objs.size (.own (s.heap.objs.size + 1))) (s.heap.objs.size + 1) (.ins C s.heap.objs.size []))
    { s with heap := (s.heap.push PySem.W.emptyDict).push (PySem.W.instObj C s.heap.objs.size) } := by
  have e1 : (s.heap.push PySem.W.emptyDict).get? s.heap.objs.size = some PySem.W.emptyDict := Heap.get?_push_size s.heap rfl
  have e2 : ((s.heap.push PySem.W.emptyDict).push (PySem.W.instObj C s.heap.objs.size)).get? (s.heap.objs.size + 1) = some (PySem.W.instObj C s.heap.objs.size) := by
    have := Heap.get?_push_size (s.heap.push PySem.W.emptyDict) (o := PySem.W.instObj C s.heap.objs.size) rfl
    rwa [Heap.size_push] at this
  have e3 : (s.heap.push PySem.W.emptyDict).Ns s.heap.objs.size (fun _ => none) := ⟨PySem.W.emptyDict, #[], _, e1, rfl, (fun e he => absurd he (by simp)), fun _ => rfl⟩
  have I1 := I.laid (a := s.heap.objs.size) (o := .own (s.heap.objs.size + 1)) (h' := s.heap.push PySem.W.emptyDict) (t' := s.toks) (fun b u q => Heap.get?_push_of_some _ q) (Nat.le_refl _) ⟨_, e1⟩
  refine I1.laid (a := s.heap.objs.size + 1) (o := .ins C s.heap.objs.size []) (t' := s.toks) (fun b u q => Heap.get?_push_of_some _ q) (Nat.le_of_eq (Heap.size_push _ _)) ?_
  have ne : s.heap.objs.size ≠ s.heap.objs.size + 1 := Nat.ne_of_lt (Nat.lt_succ_self _)
  refine ⟨by rw [upd_ne ne, upd_same], Nat.zero_le _, ne, e2, fun _ => none, (Heap.Ns1.of_empty e3).at fun o q => Heap.get?_push_of_some _ q, fun _ => True.intro, fun y hy => absurd rfl hy⟩
/-- e.f where nothing but the object is asked: through attributeBase (super) and the last hold -/
theorem attr_of {prog : Program} {w : World} {env : Env} {e : Expr} {f : Str} {pos : Pos} {s : Shared} {Q : Value → Shared → Prop} (hb : attributeBase e f env (eval e env) = eval e env)
    (h : wpAny (model prog w) A (eval e env) (fun o s₁ => wpAny (model prog w) A (getAttr o f true) Q E s₁) E s) : wpAny (model prog w) A (eval (.Attribute e f pos) env) Q E s :=
  Attribute_any_ h (by rw [arm_eval_Attribute, hb])
end
/-! ### readings and rules -/
/-- e.f, an attribute of the instance -/
def tFld (K : PySem.W.Frag) (ta : TE) (f : Str) : TE := fun σ H Q => ta σ H fun x H1 => ∃ a C dx fs v, x = .ref a ∧ H1 a = some (.ins C dx fs) ∧ Cls K C ∧ NoAttr K C f ∧ fs.lookup f = some v ∧ Q v H1
/-- e.f = value -/
def sFld (K : PySem.W.Frag) (ta tv : TE) (f : Str) : TS := fun D σ H => tv σ H fun y H1 => ta σ H1 fun x H2 => ∃ a C dx fs, x = .ref a ∧ H2 a = some (.ins C dx fs) ∧ Cls K C ∧ NoAttr K C f ∧ fs.length < 1000 ∧
  D.nx σ (upd H2 a (.ins C dx (putF f y fs)))
section
variable {X : Cx} {o e value : Expr} {f : Str} {pos pos' tpos : Pos} {ta tv : TE}
theorem pe_fld (he : PE X e ta) (hb : attributeBase e f X.env (eval e X.env) = eval e X.env) : PE X (.Attribute e f pos) (tFld X.K ta f) := by
  intro pins s σ H Q I h
  refine attr_of hb (thn (he pins s σ H _ I h) fun u s1 ⟨x, H1, I1, rx, a, C, dx, fs, v, ex, ea, c, n, l, q⟩ => ?_)
  subst ex
  obtain rfl : u = Value.ref a := rx
  exact getattr_ok I1 ea c n l fun u' s2 I2 ru => ⟨v, H1, I2, ru, q⟩
theorem ps_fld (ha : PE X o ta) (hv : PE X value tv) (hs : swapsWith value (some (.Attribute o f pos')) pos.line X.env = pure false) : PS X (.Assign [.Attribute o f pos'] value pos) (sFld X.K ta tv f) := by
  intro pins s σ H D I h
  refine plainObj_wpAny_Assign_Attribute (thn (hv pins s σ H _ I h) fun u s1 ⟨y, H1, I1, ry, q⟩ => thn (ha pins s1 σ H1 _ I1 q) fun ov s2 ⟨x, H2, I2, rx, a, C, dx, fs, ex, ea, c, n, l, q2⟩ => ?_) hs
  subst ex
  obtain rfl : ov = Value.ref a := rx
  exact setattr_ok I2 ea c n l ry fun s3 I3 => ⟨σ, _, I3, q2⟩
/-- what is between an instance and its method: the tree of a method call -/
theorem methcall_of {pl : Sem Bool} {m : Str} {apos : Pos} {args : List Expr} {pins : List (Addr × Obj)} {s : Shared} {σ : St} {H : Hp} {Q : Value → Shared → Prop} {te : TE} (he : PE X e te) (I : Inv X pins σ H s)
    (h : te σ H fun x H1 => ∃ a C dx fs g, x = .ref a ∧ H1 a = some (.ins C dx fs) ∧ Cls X.K C ∧ Meth X.K C m g ∧ fs.lookup m = none ∧
      ∀ s1, Inv X pins σ H1 s1 → wpAny (model X.prog X.w) X.A (callWith pos (.ref g) [.ref a] (backTo pos (starEach args X.env)) (backToKw pos (keywordEach [] X.env))) Q X.xe s1)
    (ht : eval (.Call (.Attribute e m apos) args [] pos) X.env = (do
      let ov ← eval e X.env
      standAt apos.atName
      let (f, first) ← holding [ov] (getMethod ov m pl)
      callWith pos f first (backTo pos (starEach args X.env)) (backToKw pos (keywordEach [] X.env)))) :
    wpAny (model X.prog X.w) X.A (eval (.Call (.Attribute e m apos) args [] pos) X.env) Q X.xe s := by
  refine PySem.W.methodCall_KW (pl := pl) (thn (he pins s σ H _ I h) fun u s1 ⟨x, H1, I1, rx, a, C, dx, fs, g, ex, ea, c, k, l, q⟩ => ?_) ht
  subst ex
  obtain rfl : u = Value.ref a := rx
  exact getmeth_ok I1 ea c k l (q s1 I1)
end
/-! ### isinstance -/
section
variable {X : Cx} {pins : List (Addr × Obj)} {σ : St} {H : Hp} {s : Shared} {A : Around} {E : Value → Shared → Prop} {Q : Value → Shared → Prop} {c : Value} {b : Bool}
end
end L2
namespace L2
open PySem PySem.Spec PyProof.Rows
/-! ### room -/
structure Room (k : Nat) (A : Around) : Prop where
  hd : A.handled = none
  dp : A.depth + 3 * k + 5 < recursionLimit
  un : A.units + 16 * k + 200 < cLine
theorem Room.mono {j k : Nat} {A : Around} (r : Room k A) (h : j ≤ k) : Room j A := ⟨r.hd, by have := r.dp; omega, by have := r.un; omega⟩
theorem Room.deeper {k : Nat} {A : Around} (r : Room (k + 1) A) (env : Env) : Room k (A.deeper env) :=
  ⟨r.hd, by have := r.dp; show A.depth + 1 + 3 * k + 5 < _; omega, by have := r.un; show A.units + 3 + 16 * k + 200 < _; omega⟩
theorem make_depth {A : Around} {C : Addr} {us : List Value} {kw : List (Str × Value)} : (A.under (.builtin "type.__call__" ⟨.ref C :: us, kw⟩)).depth = A.depth + 1 := by
  first | rfl | simp [Around.under, Code.weight, Code.isCreation, Code.isGuard, Code.isCaller, Code.frames, Code.isFrame, guardIds]
theorem make_units {A : Around} {C : Addr} {us : List Value} {kw : List (Str × Value)} : (A.under (.builtin "type.__call__" ⟨.ref C :: us, kw⟩)).units = A.units + 1 := by
  first | rfl | simp [Around.under, Code.cUnits, Code.frames, Code.isFrame]
theorem Room.make {k : Nat} {A : Around} (r : Room (k + 1) A) (C : Addr) (us : List Value) (kw : List (Str × Value)) : Room k (A.under (.builtin "type.__call__" ⟨.ref C :: us, kw⟩)) :=
  ⟨r.hd, by have := r.dp; rw [make_depth]; omega, by have := r.un; rw [make_units]; omega⟩
theorem Room.depth {k : Nat} {A : Around} (r : Room k A) : A.depth < recursionLimit := by have := r.dp; omega
theorem Room.units {k : Nat} {A : Around} (r : Room k A) : A.units + 64 < cLine := by have := r.un; omega
/-! ### argument lists and displays -/
def tNil : TA := fun _ H Q => Q [] H
def tCons (ta : TE) (tr : TA) : TA := fun σ H Q => ta σ H fun x H1 => tr σ H1 fun xs H2 => Q (x :: xs) H2
section
variable {X : Cx} {e : Expr} {es : List Expr} {te : TE} {t : TA} {pos : Pos}
theorem pa_nil : PA X [] tNil := fun _ _ _ _ H Q I h => Calls.spliced_nil ⟨[], H, I, .nil, h⟩
theorem pa_cons (ha : PE X e te) (hr : PA X es t) (hs : starEach (e :: es) X.env = (false, eval e X.env) :: starEach es X.env := by rfl) : PA X (e :: es) (tCons te t) := by
  intro pos pins s σ H Q I h
  rw [hs]
  show wpAny _ _ (spliced ((false, eval e X.env) :: backTo pos (starEach es X.env))) _ _ s
  refine Calls.spliced_cons (thn (ha pins s σ H _ I h) fun u s1 ⟨x, H1, I1, r1, q1⟩ => ?_)
  exact thn (hr pos pins s1 σ H1 _ I1 q1) fun us s2 ⟨xs, H2, I2, r2, q2⟩ => ⟨x :: xs, H2, I2, .cons r1 r2, q2⟩
/-- a tuple, a list of written items -/
def tTup (t : TA) : TE := fun σ H Q => t σ H fun xs H1 => xs.length ≤ sizeLine ∧ ∀ p, H1 p = none → Q (.ref p) (upd H1 p (.tup xs))
def tLst (t : TA) : TE := fun σ H Q => t σ H fun xs H1 => xs.length ≤ sizeLine ∧ ∀ p, H1 p = none → Q (.ref p) (upd H1 p (.lst xs))
theorem pe_tup {x1} (h : PA X es t) : PE X (.Tuple es x1 pos) (tTup t) := by
  intro pins s σ H Q I hq
  refine wpAny_Tuple_spliced (thn (h pos pins s σ H _ I hq) fun us s1 ⟨xs, H1, I1, r, z, q⟩ => ⟨by rw [← r.length]; exact z, ?_⟩)
  have hf : H1 s1.heap.objs.size = none := I1.hok.fresh (Nat.le_refl _)
  refine ⟨.ref s1.heap.objs.size, upd H1 s1.heap.objs.size (.tup xs), I1.laid (t' := s1.toks) (fun b u e => Heap.get?_push_of_some _ e) (Nat.le_refl _) ?_, rfl, q _ hf⟩
  exact ⟨z, us, r, ⟨_, Heap.get?_push_size _ rfl, rfl, _, rfl⟩⟩
theorem pe_lst (h : PA X es t) : PE X (.List es pos) (tLst t) := by
  intro pins s σ H Q I hq
  refine wpAny_List_spliced (thn (h pos pins s σ H _ I hq) fun us s1 ⟨xs, H1, I1, r, z, q⟩ => ⟨by rw [← r.length]; exact z, ?_⟩)
  have hf : H1 s1.heap.objs.size = none := I1.hok.fresh (Nat.le_refl _)
  refine ⟨.ref s1.heap.objs.size, upd H1 s1.heap.objs.size (.lst xs), I1.laid (t' := s1.toks) (fun b u e => Heap.get?_push_of_some _ e) (Nat.le_refl _) ?_, rfl, q _ hf⟩
  exact ⟨z, us, 0, r, Heap.get?_push_size _ rfl⟩
end
/-! ### what a def promises -/
/-- a def's promise: the bound arguments in the parameters' order, the heap, the wanted end, the wanted exception -/
abbrev Sp := List V → Hp → VK → XK → Prop
/-- how an exception lies behind a call (file 08 gives it): the callers' frames, abstract heap and state ahead of the call, the wish, the exception, the state -/
abbrev CXT := List Env → Hp → Shared → XK → Value → Shared → Prop
/-- the state at a call -/
structure Env0 (P : Program) (w : World) (K : PySem.W.Frag) (mg : Str → Option Value) (base : Heap) (A : Around) (outer : List Env) (s : Shared) (H : Hp) : Prop where
  frames : A.frames = some outer
  mod : Mod K mg base
  bs : ∀ b o, base.get? b = some o → s.heap.get? b = some o ∧ H b = none
  bsz : base.objs.size ≤ s.heap.objs.size
  funs : s.heap.FunFrames base outer
  frf : ∀ b ∈ frs outer, H b = none
  hok : HOk P w H s.heap
  bare : AllBare s.gens
/-- a call's end -/
def CE (outer : List Env) (P : Program) (w : World) (H : Hp) (s : Shared) (Q : VK) (u : Value) (s' : Shared) : Prop :=
  ∃ v H', s'.os = s.os ∧ AllBare s'.gens ∧ Un (frs outer) [] H H' s.heap s'.heap ∧ HOk P w H' s'.heap ∧ RelV v u ∧ Q v H'
def CR (CX : CXT) (outer : List Env) (P : Program) (w : World) (H : Hp) (s : Shared) (Q : VK) (E : XK) (r : Result) (s' : Shared) : Prop :=
  match r with
  | .ok (.ret u) => CE outer P w H s Q u s'
  | .ok _ => False
  | .error e => CX outer H s E e s'
structure FnOk (P : Program) (w : World) (K : PySem.W.Frag) (mg : Str → Option Value) (base : Heap) (CX : CXT) (k : Nat) (f : Addr) (fd : FuncData) (ps : List Str) (sp : Sp) : Prop where
  len : ∀ vs H Q E, sp vs H Q E → vs.length = ps.length
  run : ∀ (A : Around) (outer : List Env) (s : Shared) (H : Hp) (args : Args) (us : List Value) (vs : List V) (Q : VK) (E : XK), Room k A → Env0 P w K mg base A outer s H → BindsTo s fd args (ps.zip us) → Vals vs us → sp vs H Q E →
    codeAny (model P w) A (.call (.ref f) args) (CR CX outer P w H s Q E) s
theorem Env0.make {P : Program} {w : World} {K : PySem.W.Frag} {mg : Str → Option Value} {base : Heap} {A : Around} {outer : List Env} {s : Shared} {H : Hp} (e : Env0 P w K mg base A outer s H) (C : Addr) (us : List Value) (kw : List (Str × Value)) :
    Env0 P w K mg base (A.under (.builtin "type.__call__" ⟨.ref C :: us, kw⟩)) outer s H := ⟨by first | exact e.frames | (simpa [Around.under, Code.envs, Code.isFrame, pushEnvs] using e.frames), e.mod, e.bs, e.bsz, e.funs, e.frf, e.hok, e.bare⟩
section
variable {X : Cx} {pins : List (Addr × Obj)} {σ : St} {H : Hp} {s s' : Shared}
/-- from a body: what a callee wants -/
theorem Inv.env0 (I : Inv X pins σ H s) : Env0 X.prog X.w X.K X.mg X.base X.A X.stack s H :=
  ⟨I.ok.frames, I.ok.mod, I.bs, Nat.le_trans I.ok.bsz I.sz, I.stack, I.stkFree, I.hok, I.bare⟩
/-- behind a call -/
theorem Inv.after {Q : VK} {u : Value} (I : Inv X pins σ H s) (h : CE X.stack X.prog X.w H s Q u s') : EP X pins σ Q u s' := by
  obtain ⟨v, H', os, bare, un, hok, r, q⟩ := h
  obtain ⟨hh, g, d, t, os'⟩ := s'
  obtain rfl : os' = s.os := os
  exact ⟨v, H', I.call (h' := hh) (g' := g) (d' := d) (t' := t) (ch := []) un hok bare (fun b z => absurd z (by simp)), r, q⟩
end
/-! ### calls -/
/-- f(..): the written arguments, then the defaults dvs; E: what is wanted of an exception -/
def tCall (sp : Sp) (dvs : List V) (E : XK) (t : TA) : TE := fun σ H Q => t σ H fun vs H1 => sp (vs ++ dvs) H1 Q E
/-- o.m(..) of an instance of the class at C -/
def tMeth (C : Addr) (m : Str) (sp : Sp) (dvs : List V) (E : XK) (ta : TE) (t : TA) : TE := fun σ H Q => ta σ H fun x H1 => ∃ a dx fs, x = .ref a ∧ H1 a = some (.ins C dx fs) ∧ fs.lookup m = none ∧
  t σ H1 fun vs H2 => sp (x :: (vs ++ dvs)) H2 Q E
/-- C(..): a new instance and its dict, then __init__ -/
def tMake (C : Addr) (sp : Sp) (dvs : List V) (E : XK) (t : TA) : TE := fun σ H Q => t σ H fun vs H1 => ∀ x dx, H1 x = none → H1 dx = none → dx ≠ x →
  sp (.ref x :: (vs ++ dvs)) (upd (upd H1 dx (.own x)) x (.ins C dx [])) (fun v H2 => v = .non ∧ Q (.ref x) H2) E
/-- how the parameters are bound: us the positional arguments, kw the keywords' values by name, ds the defaults that fill up -/
def Binds (K : PySem.W.Frag) (fd : FuncData) (ps : List Str) (ds : List Value) : Prop :=
  ∀ (s : Shared) (us : List Value), K.In s.heap → (us ++ ds).length = ps.length → BindsTo s fd ⟨us, []⟩ (ps.zip (us ++ ds))
/-- every parameter is given -/
theorem Binds.all {K : PySem.W.Frag} {fd : FuncData} {ps : List Str} (h : ∀ us : List Value, us.length = ps.length → bindArgs fd ⟨us, []⟩ = pure (ps.zip us)) : Binds K fd ps [] := fun s us _ hl => by
  rw [List.append_nil] at hl ⊢
  exact .of_eq (h us hl)
/-- an exception of a callee reaches what this body wants of exceptions -/
def Passes (CX : CXT) (X : Cx) (E : XK) : Prop := ∀ (pins : List (Addr × Obj)) (σ : St) (H : Hp) (s : Shared) (e : Value) (s' : Shared), Inv X pins σ H s → CX X.stack H s E e s' → X.xe e s'
section
variable {X : Cx} {CX : CXT} {k : Nat} {f C : Addr} {fd : FuncData} {ps : List Str} {sp : Sp} {dvs : List V} {ds : List Value} {E : XK} {x m : Str} {p pos apos : Pos} {e o : Expr} {es : List Expr} {ta : TE} {t : TA}
/-- the callee runs -/
theorem run_fn {pins : List (Addr × Obj)} {σ : St} {H : Hp} {s : Shared} {Q : VK} {us : List Value} {vs : List V} (F : FnOk X.prog X.w X.K X.mg X.base CX k f fd ps sp) (hr : Room k X.A) (hb : Binds X.K fd ps ds) (hd : Vals dvs ds) (hx : Passes CX X E)
    (I : Inv X pins σ H s) (r : Vals vs us) (h : sp (vs ++ dvs) H Q E) : wpAny (model X.prog X.w) X.A (call (.ref f) us) (EP X pins σ Q) X.xe s := by
  have r2 : Vals (vs ++ dvs) (us ++ ds) := r.append hd
  have hl : (us ++ ds).length = ps.length := by rw [← r2.length]; exact F.len _ _ _ _ h
  refine wpAny_call (codeAny_mono (F.run X.A X.stack s H ⟨us, []⟩ (us ++ ds) (vs ++ dvs) Q E hr I.env0 (hb s us I.kIn hl) r2 h) fun r s' hq => ?_)
  cases r with
  | error e => exact hx pins σ H s e s' I hq
  | ok fl =>
    cases fl with
    | ret u => exact I.after hq
    | next => exact False.elim hq
    | brk => exact False.elim hq
    | cont => exact False.elim hq
theorem pe_call (F : FnOk X.prog X.w X.K X.mg X.base CX k f fd ps sp) (hr : Room k X.A) (hg : Gl X x) (hm : X.mg x = some (.ref f)) (hk : PySem.W.keepIn X.K (.ref f) = true) (hb : Binds X.K fd ps ds) (hd : Vals dvs ds) (hx : Passes CX X E)
    (ha : PA X (e :: es) t) (hdb : (x == ("__debug__" : Str)) = false := by decide) (he : starEach (e :: es) X.env = (false, eval e X.env) :: starEach es X.env := by rfl) (hpl : (backTo pos (starEach es X.env)).any (·.1) = false := by rfl) :
    PE X (.Call (.Name x p) (e :: es) [] pos) (tCall sp dvs E t) := by
  intro pins s σ H Q I h
  refine wpAny_Call_Name_kw (ld_glob I hg hm ?_ hdb)
  refine PySem.W.callWith_K (h₀ := X.base) I.ok.mod.kin hk (thn (ha pos pins s σ H _ I h) fun us s1 ⟨vs, H1, I1, r, q⟩ => ⟨I1.kIn, ?_⟩) he hpl
  exact run_fn F hr hb hd hx I1 r q
/-- o.m(e, ..) -/
theorem pe_meth {pl : Sem Bool} (he : PE X o ta) (c : Cls X.K C) (hm : Meth X.K C m f) (F : FnOk X.prog X.w X.K X.mg X.base CX k f fd ps sp) (hr : Room k X.A) (hb : Binds X.K fd ps ds) (hd : Vals dvs ds) (hx : Passes CX X E) (ha : PA X (e :: es) t)
    (hst : starEach (e :: es) X.env = (false, eval e X.env) :: starEach es X.env := by rfl) (hpl : (backTo pos (starEach es X.env)).any (·.1) = false := by rfl)
    (ht : eval (.Call (.Attribute o m apos) (e :: es) [] pos) X.env = (do
      let ov ← eval o X.env
      standAt apos.atName
      let (f, first) ← holding [ov] (getMethod ov m pl)
      callWith pos f first (backTo pos (starEach (e :: es) X.env)) (backToKw pos (keywordEach [] X.env))) := by rfl) :
    PE X (.Call (.Attribute o m apos) (e :: es) [] pos) (tMeth C m sp dvs E ta t) := by
  intro pins s σ H Q I h
  refine PySem.W.methodCall_KW (pl := pl) (thn (he pins s σ H _ I h) fun u s1 ⟨x, H1, I1, rx, a, dx, fs, ex, ea, l, q⟩ => ?_) ht
  subst ex
  obtain rfl : u = Value.ref a := rx
  refine getmeth_ok I1 ea c hm l ?_
  refine PySem.W.callWith_K (first := [.ref a]) (h₀ := X.base) I.ok.mod.kin hm.kp (thn (ha pos pins s1 σ H1 _ I1 q) fun us s2 ⟨vs, H2, I2, r, q2⟩ => ⟨I2.kIn, ?_⟩) hst hpl
  exact run_fn (us := .ref a :: us) (vs := .ref a :: vs) F hr hb hd hx I2 (.cons rfl r) q2
/-- o.m() -/
theorem pe_meth0 {pl : Sem Bool} (he : PE X o ta) (c : Cls X.K C) (hm : Meth X.K C m f) (F : FnOk X.prog X.w X.K X.mg X.base CX k f fd ps sp) (hr : Room k X.A) (hb : Binds X.K fd ps ds) (hd : Vals dvs ds) (hx : Passes CX X E)
    (ht : eval (.Call (.Attribute o m apos) [] [] pos) X.env = (do
      let ov ← eval o X.env
      standAt apos.atName
      let (f, first) ← holding [ov] (getMethod ov m pl)
      callWith pos f first (backTo pos (starEach [] X.env)) (backToKw pos (keywordEach [] X.env))) := by rfl) :
    PE X (.Call (.Attribute o m apos) [] [] pos) (tMeth C m sp dvs E ta tNil) := by
  intro pins s σ H Q I h
  refine PySem.W.methodCall_KW (pl := pl) (thn (he pins s σ H _ I h) fun u s1 ⟨x, H1, I1, rx, a, dx, fs, ex, ea, l, q⟩ => ?_) ht
  subst ex
  obtain rfl : u = Value.ref a := rx
  refine getmeth_ok I1 ea c hm l ?_
  exact PySem.W.callWith_K0 (first := [.ref a]) I1.kIn hm.kp (run_fn (us := [.ref a]) (vs := [.ref a]) F hr hb hd hx I1 (.cons rfl .nil) q)
/-- what a class must have to be made -/
structure Mk (K : PySem.W.Frag) (C f : Addr) : Prop where
  makes : PySem.W.makesIn K C = true
  init : PySem.W.findIn K (.ref C) "__init__" = some (some (.ref f))
  fn : PySem.W.isFn K (.ref f) = true
  kp : PySem.W.keepIn K (.ref C) = true
theorem run_make {pins : List (Addr × Obj)} {σ : St} {H : Hp} {s : Shared} {Q : VK} {us : List Value} {vs : List V} (M : Mk X.K C f) (F : FnOk X.prog X.w X.K X.mg X.base CX k f fd ps sp) (hr : Room (k + 1) X.A) (hb : Binds X.K fd ps ds) (hd : Vals dvs ds)
    (hx : Passes CX X E) (I : Inv X pins σ H s) (r : Vals vs us)
    (h : ∀ x dx, H x = none → H dx = none → dx ≠ x → sp (.ref x :: (vs ++ dvs)) (upd (upd H dx (.own x)) x (.ins C dx [])) (fun v H2 => v = .non ∧ Q (.ref x) H2) E) :
    wpAny (model X.prog X.w) X.A (call (.ref C) us) (EP X pins σ Q) X.xe s := by
  have hq := h (s.heap.objs.size + 1) s.heap.objs.size (I.hok.fresh (Nat.le_succ _)) (I.hok.fresh (Nat.le_refl _)) (Nat.ne_of_lt (Nat.lt_succ_self _))
  have I2 := Inv.made (C := C) I
  have r2 : Vals (V.ref (s.heap.objs.size + 1) :: (vs ++ dvs)) (Value.ref (s.heap.objs.size + 1) :: (us ++ ds)) := .cons rfl (r.append hd)
  have hl : (Value.ref (s.heap.objs.size + 1) :: us ++ ds).length = ps.length := by
    have e := r2.length
    rw [F.len _ _ _ _ hq] at e
    exact e.symm
  refine wpAny_call (make_map (f := f) I.kIn M.makes M.init (beq_iff_eq.mp M.fn) (codeAny_mono (F.run _ X.stack _ _ ⟨Value.ref (s.heap.objs.size + 1) :: us, []⟩ (Value.ref (s.heap.objs.size + 1) :: (us ++ ds)) _ _ E (hr.make C us [])
    (I2.env0.make C us []) (hb _ (Value.ref (s.heap.objs.size + 1) :: us) I2.kIn hl) r2 hq) fun r s' hq' => ?_))
  cases r with
  | error e => exact hx pins σ _ _ e s' I2 hq'
  | ok fl =>
    cases fl with
    | ret u =>
      obtain ⟨v, H', I3, rv, ev, q3⟩ := I2.after hq'
      subst ev
      exact ⟨rv, ⟨V.ref (s.heap.objs.size + 1), H', I3, rfl, q3⟩⟩
    | next => exact False.elim hq'
    | brk => exact False.elim hq'
    | cont => exact False.elim hq'
theorem pe_make0 (M : Mk X.K C f) (F : FnOk X.prog X.w X.K X.mg X.base CX k f fd ps sp) (hr : Room (k + 1) X.A) (hg : Gl X x) (hm : X.mg x = some (.ref C)) (hb : Binds X.K fd ps ds) (hd : Vals dvs ds) (hx : Passes CX X E)
    (hdb : (x == ("__debug__" : Str)) = false := by decide) : PE X (.Call (.Name x p) [] [] pos) (tMake C sp dvs E tNil) := by
  intro pins s σ H Q I h
  refine wpAny_Call_Name_kw (ld_glob I hg hm ?_ hdb)
  exact PySem.W.callWith_K0 I.kIn M.kp (run_make (us := []) M F hr hb hd hx I .nil h)
end
/-! ### keywords -/
section
variable {X : Cx} {CX : CXT} {k : Nat} {f C : Addr} {fd : FuncData} {ps ks : List Str} {sp : Sp} {E : XK} {x m : Str} {p pos apos kpos : Pos} {e o : Expr} {es : List Expr} {kws : List Keyword} {te ta : TE} {t tk : TA} {nm : Option Str}
variable {g : List Value → List Value → List Value} {gV : List V → List V → List V}
end
/-! ### a def's body keeps its promise -/
/-- names: the parameters first -/
structure FnScope (N P : List Str) (sc : Scope) : Prop where
  kind : sc.kind = .function
  co : sc.isCoroutine = false
  gen : sc.isGenerator = false
  nd : N.Nodup
  pre : N.take P.length = P
  par : ∀ x ∈ P, sc.names.lookup x = some .local ∨ sc.names.lookup x = some .cell
  nofree : ∀ y ∈ sc.names, y.2 ≠ .free
theorem bindL_out {kindOf : Str → Option NameKind} {x : Str} : ∀ {binds : List (Str × Value)} {m : Str → Option Value}, (∀ v, (x, v) ∉ binds) → bindL kindOf binds m x = m x
  | [], _, _ => rfl
  | (n, v) :: r, m, h => by
    unfold bindL
    rw [bindL_out fun w hw => h w (List.mem_cons_of_mem _ hw)]
    split
    · have : x ≠ n := by rintro rfl; exact h v List.mem_cons_self
      simp [this]
    · rfl
theorem bindC_out {kindOf : Str → Option NameKind} {x : Str} : ∀ {binds : List (Str × Value)} {m : Str → Option Value}, (∀ v, (x, v) ∉ binds) → bindC kindOf binds m x = m x
  | [], _, _ => rfl
  | (n, v) :: r, m, h => by
    unfold bindC
    rw [bindC_out fun w hw => h w (List.mem_cons_of_mem _ hw)]
    split
    · rfl
    · have : x ≠ n := by rintro rfl; exact h v List.mem_cons_self
      simp [this]
theorem bindL_get {kindOf : Str → Option NameKind} {x : Str} {v : Value} : ∀ {P : List Str} {vs : List Value} {i : Nat} {m : Str → Option Value}, P.Nodup → P[i]? = some x → vs[i]? = some v → kindOf x = some .local →
    bindL kindOf (P.zip vs) m x = some v
  | [], _, _, _, _, h, _, _ => by simp at h
  | _ :: _, [], _, _, _, _, h, _ => by simp at h
  | p :: P, w :: vs, 0, m, nd, h1, h2, hk => by
    simp at h1 h2; subst h1; subst h2
    show bindL kindOf ((p, w) :: P.zip vs) m p = _
    unfold bindL
    rw [bindL_out fun v hv => (List.nodup_cons.mp nd).1 (List.of_mem_zip hv).1, if_pos hk]
    simp
  | p :: P, w :: vs, i + 1, m, nd, h1, h2, hk => by
    show bindL kindOf ((p, w) :: P.zip vs) m x = _
    unfold bindL
    exact bindL_get (i := i) (List.nodup_cons.mp nd).2 (by simpa using h1) (by simpa using h2) hk
theorem bindC_get {kindOf : Str → Option NameKind} {x : Str} {v : Value} : ∀ {P : List Str} {vs : List Value} {i : Nat} {m : Str → Option Value}, P.Nodup → P[i]? = some x → vs[i]? = some v → kindOf x ≠ some .local →
    bindC kindOf (P.zip vs) m x = some v
  | [], _, _, _, _, h, _, _ => by simp at h
  | _ :: _, [], _, _, _, _, h, _ => by simp at h
  | p :: P, w :: vs, 0, m, nd, h1, h2, hk => by
    simp at h1 h2; subst h1; subst h2
    show bindC kindOf ((p, w) :: P.zip vs) m p = _
    unfold bindC
    rw [bindC_out fun v hv => (List.nodup_cons.mp nd).1 (List.of_mem_zip hv).1, if_neg hk]
    simp
  | p :: P, w :: vs, i + 1, m, nd, h1, h2, hk => by
    show bindC kindOf ((p, w) :: P.zip vs) m x = _
    unfold bindC
    exact bindC_get (i := i) (List.nodup_cons.mp nd).2 (by simpa using h1) (by simpa using h2) hk
/-- the names' values at the entry -/
def start (N : List Str) (vs : List V) : St := vs.map some ++ List.replicate (N.length - vs.length) none
/-- the context of a def's body, at its entry; an exception leaves the frame, then lies as CX says -/
def cxOf (CX : CXT) (P : Program) (w : World) (K : PySem.W.Frag) (mg : Str → Option Value) (base : Heap) (N : List Str) (qual : Str) (scope : Scope) (f : Addr) (cd : Value) (A : Around) (outer : List Env) (s : Shared) (H : Hp) (E : XK) : Cx where
  prog := P
  w := w
  K := K
  mg := mg
  base := base
  A := A.deeper (envOfC qual scope s.heap.objs.size f cd)
  N := N
  s_0 := s
  H_0 := H
  env := envOfC qual scope s.heap.objs.size f cd
  outer := outer
  stack := envOfC qual scope s.heap.objs.size f cd :: outer
  ex := []
  calm := true
  fn := fun _ => true
  pn := []
  xe := fun e s' => wpAny (model P w) (A.deeper (envOfC qual scope s.heap.objs.size f cd)) (leaving (envOfC qual scope s.heap.objs.size f cd) e) (fun _ s'' => CX outer H s E e s'') (fun e' s'' => CX outer H s E e' s'') s'
theorem cell_has {sc : Scope} {n : Nat} {x : Str} (h : sc.names.lookup x = some .cell) : ∃ c, (cellsFrom n sc.names []).lookup x = some c := by
  have q := PySem.W.cellsFrom_some sc.names n [] (.inl h)
  exact Option.isSome_iff_exists.mp q
theorem inv_start {CX : CXT} {P : Program} {w : World} {K : PySem.W.Frag} {mg : Str → Option Value} {base : Heap} {N ps : List Str} {qual : Str} {scope : Scope} {f : Addr} {cd : Value} {A : Around} {outer : List Env} {s s1 : Shared} {H : Hp} {E : XK} {us : List Value} {vs : List V}
    (S : FnScope N ps scope) (hd : A.handled = none) (e0 : Env0 P w K mg base A outer s H) (hl : vs.length = ps.length) (r : Vals vs us)
    (x : InCallC s s.heap.objs.size (bindL (envOfC qual scope s.heap.objs.size f cd).kindOf (ps.zip us) fun _ => none) (cellsFrom (s.heap.objs.size + 1) scope.names []) (bindC (envOfC qual scope s.heap.objs.size f cd).kindOf (ps.zip us) fun _ => none) s1) :
    Inv (cxOf CX P w K mg base N qual scope f cd A outer s H E) [] (start N vs) H s1 := by
  have hpl : ps.length ≤ N.length := by have := congrArg List.length S.pre; rw [List.length_take] at this; omega
  obtain ⟨h1, tk, rfl, hk⟩ := x.done
  have noA : ∀ b : Addr, b ∉ (cxOf CX P w K mg base N qual scope f cd A outer s H E).ex := fun b z => absurd (show b ∈ ([] : List Addr) from z) (by simp)
  refine ⟨⟨e0.mod, S.kind, rfl, rfl, Nat.le_refl _, fun y z c h1 h2 => ?_, fun y hy => ?_, fun y c _ h => ?_, fun _ => hd, Around.frames_deeper e0.frames, .inr ⟨rfl, rfl⟩, fun b z => absurd z (noA b), e0.bs, e0.bsz, fun b _ _ => noA b, fun b z => absurd z (noA b), e0.funs, e0.frf⟩,
    rfl, e0.bare, Un.kept hk, ⟨_, x.toInCall.ns, fun i y v h1 h2 h3 => ?_⟩, fun y c h => ⟨_, x.cell y c h⟩, e0.hok.fresh (Nat.le_refl _), fun y c h => ?_, fun p hp => absurd (show p ∈ ([] : List (Addr × Obj)) from hp) (by simp), e0.hok.kept hk, ?_⟩
  · exact name_of_addr x.apart (PySem.mem_of_lookup h1) (PySem.mem_of_lookup h2)
  · have hy : scope.names.lookup y = some .cell ∨ scope.names.lookup y = some .free := hy
    rcases hy with hy | hy
    · exact cell_has hy
    · exact absurd rfl (S.nofree _ (PySem.mem_of_lookup hy))
  · exact Nat.le_of_lt (x.above y c (PySem.mem_of_lookup h))
  · have hi : i < vs.length := by
      unfold start at h2
      by_cases hi : i < vs.length
      · exact hi
      · rw [List.getElem?_append_right (by simpa using hi)] at h2
        rw [List.getElem?_replicate] at h2
        split at h2 <;> cases h2
    have ha : vs[i]? = some v := by
      unfold start at h2
      rw [List.getElem?_append_left (by simpa using hi), List.getElem?_map] at h2
      cases e : vs[i]? with
      | none => rw [e] at h2; cases h2
      | some a => rw [e] at h2; cases h2; rfl
    obtain ⟨u, hu, rv⟩ := r.get ha
    have hp : ps[i]? = some y := by
      rw [← S.pre, List.getElem?_take_of_lt (by omega)]; exact h1
    have ndP : ps.Nodup := by rw [← S.pre]; exact S.nd.sublist (List.take_sublist _ _)
    refine ⟨u, rv, ?_⟩
    rcases S.par y (List.mem_of_getElem? hp) with k | k
    · exact .inl ⟨k, bindL_get ndP hp hu k⟩
    · obtain ⟨c, e⟩ := cell_has (n := s.heap.objs.size + 1) k
      refine .inr ⟨.inl k, c, e, ?_⟩
      have q := x.cell y c e
      rw [bindC_get ndP hp hu (by show scope.names.lookup y ≠ _; rw [k]; decide)] at q
      exact q
  · exact e0.hok.fresh (Nat.le_of_lt (x.above y c (PySem.mem_of_lookup h)))
  · unfold start
    show _ = N.length
    rw [List.length_append, List.length_map, List.length_replicate]
    omega
/-- THE RULE: a def (or a method) of the text, by its body. The body's reading t is chosen for each entry; it is run at the parameters' values -/
theorem fn_of {CX : CXT} {P : Program} {w : World} {K : PySem.W.Frag} {mg : Str → Option Value} {base : Heap} {k : Nat} {f : Addr} {name qual : Str} {params : Arguments} {body : List Stmt} {scope : Scope} {dV kV doc pm cdv ct oc : Value} {an od : Option Addr}
    {osl : Array (Option Value)} {N ps : List Str} {sp : Sp} (lk : K.lookup f = some ⟨oc, od, .func (PySem.W.fnOf name qual params body scope dV kV doc pm an cdv ct), osl⟩) (hcd : PySem.W.codeIn K cdv qual = true) (S : FnScope N ps scope)
    (len : ∀ vs H Q E, sp vs H Q E → vs.length = ps.length)
    (hbody : ∀ (A : Around) (outer : List Env) (s : Shared) (H : Hp) (vs : List V) (Q : VK) (E : XK), Room k (A.deeper (envOfC qual scope s.heap.objs.size f cdv)) → sp vs H Q E →
      ∃ t, PSs (cxOf CX P w K mg base N qual scope f cdv A outer s H E) body t ∧ t { nx := fun _ H' => Q .non H', rt := Q } (start N vs) H) :
    FnOk P w K mg base CX (k + 1) f (PySem.W.fnOf name qual params body scope dV kV doc pm an cdv ct) ps sp := by
  refine ⟨len, fun A outer s H args us vs Q E hr e0 hb r hsp => ?_⟩
  have hl := len _ _ _ _ hsp
  have KX : K.In s.heap := e0.mod.kin.keeps fun b o e => (e0.bs b o e).1
  have lim : s.heap.NoLimit := e0.mod.nolimit.keeps fun b o e => (e0.bs b o e).1
  have hkind : ∀ y ∈ ps.zip us, scope.names.lookup y.1 = some .local ∨ (scope.names.lookup y.1 = some .cell ∧ ((cellsFrom (s.heap.objs.size + 1) scope.names []).lookup y.1).isSome = true) := fun ⟨n, v⟩ hy => by
    rcases S.par n (List.of_mem_zip hy).1 with q | q
    · exact .inl q
    · exact .inr ⟨q, PySem.W.cellsFrom_some _ _ _ (.inl q)⟩
  refine codeAny_call_function hr.depth (KX _ _ lk) rfl S.co S.gen rfl (PySem.W.codeRec_of KX hcd) (hb _ _ _ _ ?_)
  refine wpAny_newFunctionEnv_cells S.kind hkind fun env he s1 x => ?_
  subst he
  refine ⟨lim.keeps x.toInCall.keep, codeAny_func ?_⟩
  obtain ⟨t, ht, hq⟩ := hbody A outer s H vs Q E (hr.deeper _) hsp
  have I : Inv (cxOf CX P w K mg base N qual scope f cdv A outer s H E) [] (start N vs) H s1 := inv_start S hr.hd e0 hl r x
  refine wpAny_mono (ht [] s1 (start N vs) H _ I hq) (fun fl s' hs => ?_) fun e s' hs => hs
  have fin : ∀ {σ' : St} {H' : Hp} {v : V} {u : Value}, Inv (cxOf CX P w K mg base N qual scope f cdv A outer s H E) [] σ' H' s' → RelV v u → Q v H' → CE outer P w H s Q u s' :=
    fun {σ' H' v u} J rv q => ⟨v, H', J.os, J.bare, J.base, J.hok, rv, q⟩
  cases fl with
  | ret u =>
    obtain ⟨v, σ', H', J, rv, q⟩ := hs
    exact fin J rv q
  | next =>
    obtain ⟨σ', H', J, q⟩ := hs
    exact fin (v := V.non) (u := Value.none) J rfl q
  | brk =>
    obtain ⟨_, _, _, q⟩ := hs
    exact False.elim q
  | cont =>
    obtain ⟨_, _, _, q⟩ := hs
    exact False.elim q
end L2
namespace L2
open PySem PySem.Spec PyProof.Rows
section
variable {X : Cx} {x : Str} {p pos : Pos} {e : Expr} {es : List Expr} {t : TA} {id T : String} {r : List V → Hp → VK → Prop}
def tCB (r : List V → Hp → VK → Prop) (t : TA) : TE := fun σ H Q => t σ H fun vs H1 => r vs H1 Q
/-- f(e, ..), f a built-in function -/
theorem pe_callB (hc : CallR X (.builtin id) r) (hg : Gl X x) (hm : X.mg x = none) (hv : bootBuiltins x = some (.builtin id)) (ha : PA X (e :: es) t) (hn : x ≠ "__name__" := by decide) (hdb : (x == ("__debug__" : Str)) = false := by decide)
    (he : starEach (e :: es) X.env = (false, eval e X.env) :: starEach es X.env := by rfl) (hpl : (backTo pos (starEach es X.env)).any (·.1) = false := by rfl) : PE X (.Call (.Name x p) (e :: es) [] pos) (tCB r t) := by
  intro pins s σ H Q I h
  refine wpAny_Call_Name_kw (ld_blt I hg hm hv ?_ hn hdb)
  exact PyProof.Rows.callWith_builtin1 (thn (ha pos pins s σ H _ I h) fun us s1 ⟨vs, H1, I1, r1, q1⟩ => hc pins s1 σ H1 vs us Q I1 r1 q1) he hpl
/-- T(e, ..), T a built-in type -/
theorem pe_callTy (hc : CallR X (.type T) r) (hg : Gl X x) (hm : X.mg x = none) (hv : bootBuiltins x = some (.type T)) (ha : PA X (e :: es) t) (hn : x ≠ "__name__" := by decide) (hdb : (x == ("__debug__" : Str)) = false := by decide)
    (he : starEach (e :: es) X.env = (false, eval e X.env) :: starEach es X.env := by rfl) (hpl : (backTo pos (starEach es X.env)).any (·.1) = false := by rfl) : PE X (.Call (.Name x p) (e :: es) [] pos) (tCB r t) := by
  intro pins s σ H Q I h
  refine wpAny_Call_Name_kw (ld_blt I hg hm hv ?_ hn hdb)
  exact PyProof.Rows.callWith_type1 (thn (ha pos pins s σ H _ I h) fun us s1 ⟨vs, H1, I1, r1, q1⟩ => hc pins s1 σ H1 vs us Q I1 r1 q1) he hpl
end
end L2
namespace HT
open PySem PyProof.Rows
section
open PySem.SeqAt
open PySem.AutoSeq1 (wpAny_loadPart')
open PySem.MeetsSeq PySem.MeetsSeq2 PySem.MeetsSeq3
end
section
variable {prog : Program} {w : World} {A : Around} {E : Value → Shared → Prop} {s : Shared}
/-! ### t[a:b], not the whole -/
/-- a slice's bound as a place among n (d where it is left out) -/
def sIx (n d : Nat) : Option Int → Nat
  | none => d
  | some v => if v < 0 then (v + (n : Int)).toNat else min v.toNat n
theorem sIx_none (n d : Nat) : sIx n d none = d := rfl
theorem sIx_nat (n d k : Nat) : sIx n d (some (k : Int)) = min k n := by
  show (if (k : Int) < 0 then ((k : Int) + (n : Int)).toNat else min (k : Int).toNat n) = min k n
  rw [if_neg (by omega), Int.toNat_natCast]
end
end HT
namespace L2
open PySem PySem.Spec PyProof.Rows
/-! ### the parts of a slice -/
abbrev TO := St → Hp → (Option Int → Hp → Prop) → Prop
/-- a slice's part (left out, or an int) -/
def PO (X : Cx) (e : Option Expr) (t : TO) : Prop :=
  ∀ (pins : List (Addr × Obj)) (s : Shared) (σ : St) (H : Hp) (Q : Option Int → Hp → Prop), Inv X pins σ H s → t σ H Q →
    wpAny (model X.prog X.w) X.A (evalPart e X.env) (fun u s' => ∃ o H', Inv X pins σ H' s' ∧ IsPart u o ∧ Q o H') X.xe s
def tNoPart : TO := fun _ H Q => Q none H
def tPart (t : TE) : TO := fun σ H Q => t σ H fun x H1 => ∃ i, x = .int i ∧ Q (some i) H1
section
variable {X : Cx} {e : Expr} {te : TE} {lo hi : Option Expr} {tl th : TO} {pos p2 : Pos}
theorem po_none : PO X none tNoPart := by
  intro pins s σ H Q I h
  rw [evalPart_none]
  exact wpAny_pure ⟨none, H, I, .none, h⟩
theorem po_some (h : PE X e te) : PO X (some e) (tPart te) := by
  intro pins s σ H Q I hw
  rw [evalPart_some]
  refine thn (h pins s σ H _ I hw) fun u s1 ⟨x, H1, I1, r1, q1⟩ => ?_
  obtain ⟨i, rfl, q⟩ := q1
  obtain ⟨t, rfl⟩ := r1
  exact ⟨some i, H1, I1, .int i t, q⟩
/-- what a slice of a value is, by values: the slice object stands at sl -/
def SlR (X : Cx) (r : V → Option Int → Option Int → Hp → VK → Prop) : Prop :=
  ∀ (pins : List (Addr × Obj)) (s : Shared) (σ : St) (H : Hp) (x : V) (v vl vu : Value) (lo hi : Option Int) (sl : Addr) (Q : VK), Inv X pins σ H s → RelV x v → s.heap.IsSliceOf sl vl vu .none → IsPart vl lo → IsPart vu hi → r x lo hi H Q →
    ∃ T id, typeLookup (.type T) "__getitem__" = pure (some (.builtin id)) ∧ s.TypeIs v T ∧ wpAny (model X.prog X.w) X.A (getItem v (.ref sl)) (EP X pins σ Q) X.xe s
def tSl (r : V → Option Int → Option Int → Hp → VK → Prop) (te : TE) (tl th : TO) : TE := fun σ H Q => te σ H fun x H1 => tl σ H1 fun l H2 => th σ H2 fun u H3 => r x l u H3 Q
/-- a[lo:hi], any a -/
theorem pe_slice {r : V → Option Int → Option Int → Hp → VK → Prop} (hr : SlR X r) (he : PE X e te) (hl : PO X lo tl) (hu : PO X hi th) : PE X (.Subscript e (.Slice lo hi none p2) pos) (tSl r te tl th) := by
  intro pins s σ H Q I h
  refine Subscript_ (thn (he pins s σ H _ I h) fun v s1 ⟨x, H1, I1, r1, q1⟩ => ?_)
  refine wpAny_Slice (thn (hl pins s1 σ H1 _ I1 q1) fun vl s2 ⟨l, H2, I2, pl, q2⟩ => thn (hu pins s2 σ H2 _ I2 q2) fun vu s3 ⟨u, H3, I3, pu, q3⟩ => ?_)
  rw [evalPart_none]
  refine wpAny_pure ?_
  have I4 : Inv X pins σ H3 { s3 with heap := s3.heap.push { cls := .type "slice", data := .fields #[vl, vu, .none] } } := I3.kept (t' := s3.toks) fun b ob q => Heap.get?_push_of_some _ q
  obtain ⟨T, id, hT, ht, hg⟩ := hr pins { s3 with heap := s3.heap.push { cls := .type "slice", data := .fields #[vl, vu, .none] } } σ H3 x v vl vu l u s3.heap.objs.size Q I4 r1 (Heap.IsSliceOf.new ..) pl pu q3
  show wpAny (model X.prog X.w) X.A (subscriptTail e (.Slice lo hi none p2) v (.ref s3.heap.objs.size)) (EP X pins σ Q) X.xe { s3 with heap := s3.heap.push { cls := .type "slice", data := .fields #[vl, vu, .none] } }
  exact tail_any (ops := [.ref s3.heap.objs.size, v]) ht hT hg (by with_unfolding_all rfl)
/-- the items of xs[lo:hi] -/
def cutV (xs : List V) (lo hi : Option Int) : List V := (xs.drop (HT.sIx xs.length 0 lo)).take (HT.sIx xs.length xs.length hi - HT.sIx xs.length 0 lo)
theorem cutV_length (xs : List V) (lo hi : Option Int) : (cutV xs lo hi).length ≤ xs.length := by
  unfold cutV
  rw [List.length_take, List.length_drop]
  omega
/-! ### t < u, t + u -/
end
end L2
namespace L2
open PySem PySem.Spec PyProof.Rows
/-! ### places -/
/-- the place that an index of any sign means -/
def ixN (n : Nat) (i : Int) : Option Nat := if 0 ≤ i then (if i < n then some i.toNat else none) else if -(n : Int) ≤ i then some (i + n).toNat else none
def atI {α : Type} (xs : List α) (i : Int) : Option α := (ixN xs.length i).bind fun j => xs[j]?
theorem ixN_seq {n : Nat} {i : Int} {j : Nat} (h : ixN n i = some j) : seqIndex? i n = some j ∧ j < n ∧ -(n : Int) ≤ i ∧ i < n := by
  unfold ixN at h
  by_cases h0 : 0 ≤ i
  · rw [if_pos h0] at h
    by_cases h1 : i < n
    · rw [if_pos h1] at h
      have e : i.toNat = j := Option.some.inj h
      exact ⟨by rw [seqIndex_of h0 h1, e], by omega, by omega, h1⟩
    · rw [if_neg h1] at h; cases h
  · rw [if_neg h0] at h
    by_cases h1 : -(n : Int) ≤ i
    · rw [if_pos h1] at h
      have e : (i + n).toNat = j := Option.some.inj h
      exact ⟨by rw [seqIndex_neg (by omega) h1, e], by omega, h1, by omega⟩
    · rw [if_neg h1] at h; cases h
theorem atI_get {α : Type} {xs : List α} {i : Int} {v : α} (h : atI xs i = some v) : ∃ j, seqIndex? i xs.length = some j ∧ xs[j]? = some v ∧ j < xs.length ∧ -(xs.length : Int) ≤ i ∧ i < xs.length := by
  unfold atI at h
  cases e : ixN xs.length i with
  | none => rw [e] at h; cases h
  | some j =>
    rw [e] at h
    obtain ⟨h1, h2, h3, h4⟩ := ixN_seq e
    exact ⟨j, h1, h, h2, h3, h4⟩
theorem atI_nat {α : Type} {xs : List α} {j : Nat} {v : α} (h : xs[j]? = some v) : atI xs (j : Int) = some v := by
  have hj : j < xs.length := (List.getElem?_eq_some_iff.mp h).1
  have e : ixN xs.length (j : Int) = some j := by
    unfold ixN
    rw [if_pos (by omega), if_pos (by omega)]; simp
  unfold atI; rw [e]; exact h
theorem atI_last {α : Type} (xs : List α) (v : α) : atI (xs ++ [v]) (-1) = some v := by
  have hl : (xs ++ [v]).length = xs.length + 1 := by simp
  have e : ixN (xs ++ [v]).length (-1) = some xs.length := by
    unfold ixN
    rw [hl, if_neg (by decide), if_pos (by omega)]
    congr 1
    omega
  unfold atI
  rw [e]
  show (xs ++ [v])[xs.length]? = some v
  simp
/-! ### what may be subscripted -/
/-- what stands as an index of a plain subscript -/
def PlainIx (b : Expr) : Prop := ∀ o i, subscripted b false o i = operate [o, i] (getItem o i)
/-- a subscript by values -/
def IxR (X : Cx) (r : R2) : Prop :=
  ∀ (value slice : Expr) (pins : List (Addr × Obj)) (s : Shared) (σ : St) (H : Hp) (x y : V) (v u : Value) (Q : VK), Inv X pins σ H s → RelV x v → RelV y u → r x y H Q →
    subscripted slice false v u = operate [v, u] (getItem v u) → wpAny (model X.prog X.w) X.A (subscriptTail value slice v u) (EP X pins σ Q) X.xe s
/-- a call of a builtin's method by values: the receiver, the arguments -/
def MtR (X : Cx) (id : String) (r : V → List V → Hp → VK → Prop) : Prop :=
  ∀ (pins : List (Addr × Obj)) (s : Shared) (σ : St) (H : Hp) (x : V) (xs : List V) (v : Value) (us : List Value) (Q : VK), Inv X pins σ H s → RelV x v → Vals xs us → r x xs H Q →
    wpAny (model X.prog X.w) X.A (call (.builtin id) (v :: us)) (EP X pins σ Q) X.xe s
section
variable {X : Cx} {a b : Expr} {ta tb : TE} {pos : Pos}
/-- a[b] -/
theorem pe_ix {r : R2} (hr : IxR X r) (ha : PE X a ta) (hb : PE X b tb) (hs : PlainIx b) : PE X (.Subscript a b pos) (tOp r ta tb) := by
  intro pins s σ H Q I h
  exact Subscript_ (binT ha hb I h fun v u s2 x y H2 I2 rx ry q => hr a b pins s2 σ H2 x y v u Q I2 rx ry q (hs _ _))
def rIxL (K : PySem.W.Frag) : R2 := fun x y H Q => ∃ p xs i v, x = .ref p ∧ y = .int i ∧ SqL K H p xs ∧ atI xs i = some v ∧ Q v H
theorem ix_list : IxR X (rIxL X.K) := by
  intro value slice pins s σ H x y v u Q I rx ry h hs
  obtain ⟨p, xs, i, z, rfl, rfl, hq, he, q⟩ := h
  cases rx
  obtain ⟨t, rfl⟩ := ry
  obtain ⟨its, r, pl, hz⟩ := I.list hq
  obtain ⟨j, h1, h2, h3, h4, h5⟩ := atI_get he
  obtain ⟨w, ew, rw'⟩ := r.get h2
  have hl := r.length
  have hn := line63
  have fin : EP X pins σ Q w s := ⟨z, H, I, rw', q⟩
  by_cases h0 : 0 ≤ i
  · have hj : i.toNat = j := by
      rw [seqIndex_of h0 h5] at h1
      exact Option.some.inj h1
    exact item_listR pl.isList h0 (by omega) (by rw [hj]; simpa using ew) fin hs
  · have hj : (i + (its.toArray.size : Int)).toNat = j := by
      rw [seqIndex_neg (by omega) h4] at h1
      rw [List.size_toArray, ← hl]
      exact Option.some.inj h1
    exact subscriptTail_builtinR (x := w) pl.isList.typeIs slot_list_getitem.lookup
      (wpAny_getItem_list_neg (Q := fun r s' => r = w ∧ EP X pins σ Q r s') pl.isList (by omega) (by rw [List.size_toArray] <;> omega) (by omega) (by rw [hj]; simpa using ew) ⟨rfl, fin⟩) hs
/-! ### xs[i] = v, any sign -/
/-! ### slices -/
theorem slice_bounds (lo hi : Option Int) (n : Nat) : (sliceBounds lo hi none n).1 = ((HT.sIx n 0 lo : Nat) : Int) ∧ (sliceBounds lo hi none n).2.1 = ((HT.sIx n n hi : Nat) : Int) ∧ (sliceBounds lo hi none n).2.2 = 1 := by
  refine ⟨?_, ?_, rfl⟩
  · cases lo with
    | none => simp [sliceBounds, HT.sIx]
    | some i =>
      simp only [sliceBounds, HT.sIx, Option.getD_none, show (1 : Int) > 0 by decide, if_true]
      by_cases h : i < 0
      · simp only [h, if_true] <;> omega
      · simp only [h, if_false] <;> omega
  · cases hi with
    | none => simp [sliceBounds, HT.sIx]
    | some i =>
      simp only [sliceBounds, HT.sIx, Option.getD_none, show (1 : Int) > 0 by decide, if_true]
      by_cases h : i < 0
      · simp only [h, if_true] <;> omega
      · simp only [h, if_false] <;> omega
theorem slicePick_cut (its : List Value) (lo hi : Option Int) : slicePick its.toArray lo hi none = ((its.drop (HT.sIx its.length 0 lo)).take (HT.sIx its.length its.length hi - HT.sIx its.length 0 lo)).toArray := by
  obtain ⟨h1, h2, h3⟩ := slice_bounds lo hi its.toArray.size
  unfold slicePick
  rw [h1, h2, h3]
  simp only [sliceRange_one, pick_run, List.size_toArray] <;> rfl
/-- xs[lo:hi] of a list: a new list -/
def rSlL (K : PySem.W.Frag) : V → Option Int → Option Int → Hp → VK → Prop := fun x lo hi H Q => ∃ a xs, x = .ref a ∧ SqL K H a xs ∧ ∀ p, H p = none → Q (.ref p) (upd H p (.lst (cutV xs lo hi)))
theorem sl_list : SlR X (rSlL X.K) := by
  intro pins s σ H x v vl vu lo hi sl Q I rx hs pl pu h
  obtain ⟨a, xs, rfl, hx, q⟩ := h
  cases rx
  obtain ⟨its, r, ht, hz⟩ := I.list hx
  have hlen := r.length
  refine ⟨"list", _, slot_list_getitem.lookup, ht.isList.typeIs, ?_⟩
  refine wpAny_getItem_list_slice ht.isList hs pl pu .none (by simp) ?_ (by rw [List.size_toArray] <;> omega)
  rw [slicePick_cut, ← hlen]
  refine ⟨.ref s.heap.objs.size, _, I.laid (t' := s.toks) (o := .lst (cutV xs lo hi)) (fun b ob q => Heap.get?_push_of_some _ q) (Nat.le_refl _) ?_, rfl, q _ (I.hok.fresh (Nat.le_refl _))⟩
  exact ⟨Nat.le_trans (cutV_length xs lo hi) hz, _, 0, (r.drop (HT.sIx xs.length 0 lo)).take (HT.sIx xs.length xs.length hi - HT.sIx xs.length 0 lo), Heap.get?_push_size _ rfl⟩
/-! ### in, not in: flat items -/
def flatV : V → Bool
  | .non => true
  | .bl _ => true
  | .int _ => true
  | .str _ => true
  | _ => false
/-- == of flat values -/
def eqV : V → V → Bool
  | .non, .non => true
  | .bl a, .bl b => a == b
  | .bl a, .int b => (if a then 1 else 0) == b
  | .int a, .bl b => a == (if b then 1 else 0)
  | .int a, .int b => a == b
  | .str a, .str b => a == b
  | _, _ => false
theorem eqAt_V {A : Around} {s : Shared} {y x : V} {u v : Value} (ry : RelV y u) (rx : RelV x v) (fy : flatV y = true) (fx : flatV x = true) : SeqAt.EqAt A s u v (eqV y x) := by
  cases y with
  | non =>
    cases ry
    cases x with
    | non => cases rx; exact SeqAt.EqAt.same _
    | bl b => cases rx; exact SeqAt.EqAt.none_bool b
    | int b => obtain ⟨t, rfl⟩ := rx; exact SeqAt.EqAt.none_int b t
    | str b => obtain ⟨t, rfl⟩ := rx; exact SeqAt.EqAt.none_str b t
    | _ => exact absurd (show false = true from fx) Bool.false_ne_true
  | bl a =>
    cases ry
    cases x with
    | non => cases rx; exact SeqAt.EqAt.bool_none a
    | bl b => cases rx; exact SeqAt.EqAt.bool_bool a b
    | int b => obtain ⟨t, rfl⟩ := rx; exact SeqAt.EqAt.bool_int a b t
    | str b => obtain ⟨t, rfl⟩ := rx; exact SeqAt.EqAt.bool_str a b t
    | _ => exact absurd (show false = true from fx) Bool.false_ne_true
  | int a =>
    obtain ⟨t', rfl⟩ := ry
    cases x with
    | non => cases rx; exact SeqAt.EqAt.int_none a t'
    | bl b => cases rx; exact SeqAt.EqAt.int_bool a t' b
    | int b => obtain ⟨t, rfl⟩ := rx; exact SeqAt.EqAt.int_int a t' b t
    | str b => obtain ⟨t, rfl⟩ := rx; exact SeqAt.EqAt.int_str a t' b t
    | _ => exact absurd (show false = true from fx) Bool.false_ne_true
  | str a =>
    obtain ⟨t', rfl⟩ := ry
    cases x with
    | non => cases rx; exact SeqAt.EqAt.str_none a t'
    | bl b => cases rx; exact SeqAt.EqAt.str_bool a t' b
    | int b => obtain ⟨t, rfl⟩ := rx; exact SeqAt.EqAt.str_int a t' b t
    | str b => obtain ⟨t, rfl⟩ := rx; exact SeqAt.EqAt.str_str a t' b t
    | _ => exact absurd (show false = true from fx) Bool.false_ne_true
  | _ => exact absurd (show false = true from fy) Bool.false_ne_true
/-- the items' answers, read off the values (a value's own answer does not lean on its token) -/
def eqU (x : V) (u : Value) : Bool := match u with
  | .none => eqV .non x
  | .bool b => eqV (.bl b) x
  | .int i _ => eqV (.int i) x
  | .str z _ => eqV (.str z) x
  | _ => false
theorem eqU_of {x y : V} {u : Value} (r : RelV y u) (f : flatV y = true) : eqU x u = eqV y x := by
  cases y with
  | non => cases r; rfl
  | bl b => cases r; rfl
  | int i => obtain ⟨t, rfl⟩ := r; rfl
  | str z => obtain ⟨t, rfl⟩ := r; rfl
  | _ => exact absurd (show false = true from f) Bool.false_ne_true
theorem any_eqU {x : V} : ∀ {xs : List V} {us : List Value}, Vals xs us → xs.all flatV = true → us.any (eqU x) = xs.any fun y => eqV y x
  | _, _, .nil, _ => rfl
  | y :: xs, u :: us, .cons r t, f => by
    rw [List.all_cons, Bool.and_eq_true] at f
    rw [List.any_cons, List.any_cons, eqU_of r f.1, any_eqU t f.2]
theorem mem_eqAt {A : Around} {s : Shared} {x : V} {v : Value} (rx : RelV x v) (fx : flatV x = true) : ∀ {xs : List V} {us : List Value}, Vals xs us → xs.all flatV = true → ∀ u ∈ us, SeqAt.EqAt A s u v (eqU x u)
  | _, _, .nil, _ => fun u hu => by cases hu
  | y :: xs, u :: us, .cons r t, f => fun u' hu => by
    rw [List.all_cons, Bool.and_eq_true] at f
    rcases List.mem_cons.mp hu with rfl | hu
    · rw [eqU_of r f.1]; exact eqAt_V r rx f.1 fx
    · exact mem_eqAt rx fx t f.2 u' hu
def inV (x : V) (xs : List V) : Bool := xs.any fun y => eqV y x
/-- x in a list or tuple of flat items -/
def rIn (K : PySem.W.Frag) (neg : Bool) : R2 := fun x y H Q => ∃ p xs, y = .ref p ∧ (SqL K H p xs ∨ SqT K H p xs) ∧ flatV x = true ∧ xs.all flatV = true ∧ Q (.bl (if neg then !inV x xs else inV x xs)) H
theorem op_in_seq : OpR X (compareOp .In) (rIn X.K false) := by
  intro pins s σ H x y v u Q I rx ry h
  obtain ⟨p, xs, rfl, hq, fx, fs, q⟩ := h
  cases ry
  rcases hq with hq | hq
  · obtain ⟨its, r, pl, hz⟩ := I.list hq
    refine SeqAt.in_listAt (eqU x) pl.isList (fun w hw => mem_eqAt rx fx r fs w (by simpa using hw)) ⟨.bl _, H, I, rfl, ?_⟩
    rw [show its.toArray.any (eqU x) = its.any (eqU x) by simp, any_eqU r fs]
    exact q
  · obtain ⟨its, r, pl, hz⟩ := I.tuple hq
    refine SeqAt.in_tupleAt (eqU x) pl (fun w hw => mem_eqAt rx fx r fs w (by simpa using hw)) ⟨.bl _, H, I, rfl, ?_⟩
    rw [show its.toArray.any (eqU x) = its.any (eqU x) by simp, any_eqU r fs]
    exact q
theorem op_notIn_seq : OpR X (compareOp .NotIn) (rIn X.K true) := by
  intro pins s σ H x y v u Q I rx ry h
  obtain ⟨p, xs, rfl, hq, fx, fs, q⟩ := h
  cases ry
  rcases hq with hq | hq
  · obtain ⟨its, r, pl, hz⟩ := I.list hq
    refine SeqAt.notIn_listAt (eqU x) pl.isList (fun w hw => mem_eqAt rx fx r fs w (by simpa using hw)) ⟨.bl _, H, I, rfl, ?_⟩
    rw [show its.toArray.any (eqU x) = its.any (eqU x) by simp, any_eqU r fs]
    exact q
  · obtain ⟨its, r, pl, hz⟩ := I.tuple hq
    refine SeqAt.notIn_tupleAt (eqU x) pl (fun w hw => mem_eqAt rx fx r fs w (by simpa using hw)) ⟨.bl _, H, I, rfl, ?_⟩
    rw [show its.toArray.any (eqU x) = its.any (eqU x) by simp, any_eqU r fs]
    exact q
/-! ### len, list(x), tuple(x) of any list or tuple that is read -/
theorem call_len_seq : CallR X (.builtin "len") (fun xs H Q => ∃ p ys, xs = [.ref p] ∧ (SqL X.K H p ys ∨ SqT X.K H p ys) ∧ Q (.int ys.length) H) := by
  intro pins s σ H xs us Q I r h
  obtain ⟨p, ys, rfl, hq, q⟩ := h
  obtain ⟨u, rfl, rx⟩ := vals1 r
  cases rx
  have hn := line63
  rcases hq with hq | hq
  · obtain ⟨its, r', pl, hz⟩ := I.list hq
    have hlen := r'.length
    exact Calls.call_len_list pl.isList (by simp only [List.size_toArray] <;> omega) ⟨.int ys.length, H, I.tok _, ⟨s.toks + 1, by rw [List.size_toArray, hlen]⟩, q⟩
  · obtain ⟨its, r', pl, hz⟩ := I.tuple hq
    have hlen := r'.length
    exact len_tuple pl (by simp only [List.size_toArray] <;> omega) ⟨.int ys.length, H, I.tok _, ⟨s.toks + 1, by rw [List.size_toArray, hlen]⟩, q⟩
theorem call_list_of : CallR X (.type "list") (fun xs H Q => ∃ p ys, xs = [.ref p] ∧ (SqL X.K H p ys ∨ SqT X.K H p ys) ∧ ∀ l, H l = none → Q (.ref l) (upd H l (.lst ys))) := by
  intro pins s σ H xs us Q I r h
  obtain ⟨p, ys, rfl, hq, q⟩ := h
  obtain ⟨u, rfl, rx⟩ := vals1 r
  cases rx
  have fin : ∀ (its : List Value), Vals ys its → ys.length ≤ sizeLine → ∀ (h' : Heap) (c' : Nat), (∀ b o', s.heap.get? b = some o' → h'.get? b = some o') →
      h'.get? s.heap.objs.size = some { cls := .type "list", dict := none, data := .seq its.toArray c', slots := #[] } → EP X pins σ Q (.ref s.heap.objs.size) { s with heap := h' } := fun its r' hz h' c' kp e =>
    ⟨.ref s.heap.objs.size, _, I.laid (t' := s.toks) kp (Nat.le_refl _) (show ObjOk X.prog X.w _ h' _ (.lst ys) from ⟨hz, its, c', r', e⟩), rfl, q _ (I.hok.fresh (Nat.le_refl _))⟩
  rcases hq with hq | hq
  · obtain ⟨its, r', pl, hz⟩ := I.list hq
    have hlen := r'.length
    obtain ⟨o, ho, hc, n, hd⟩ := pl.isList
    exact call_list_seq p (.inl rfl) ho hc hd (fun h' c' kp e => fin its r' hz h' c' kp e) (by simp only [List.size_toArray] <;> omega)
  · obtain ⟨its, r', pl, hz⟩ := I.tuple hq
    have hlen := r'.length
    obtain ⟨o, ho, hc, n, hd⟩ := pl
    exact call_list_seq p (.inr rfl) ho hc hd (fun h' c' kp e => fin its r' hz h' c' kp e) (by simp only [List.size_toArray] <;> omega)
/-! ### the call of a builtin's method: o.m(..) -/
/-- the value is of that builtin type -/
def tyV (K : PySem.W.Frag) (T : String) (x : V) (H : Hp) : Prop := match x with
  | .str _ => T = "str"
  | .int _ => T = "int"
  | .ref p => (T = "list" ∧ ∃ xs, SqL K H p xs) ∨ (T = "tuple" ∧ ∃ o, K.lookup p = some o ∧ o.cls = .type "tuple" ∧ o.dict = none) ∨
      (T = "dict" ∧ ((∃ kvs, H p = some (.dK kvs)) ∨ ∃ kvs, H p = some (.dT kvs))) ∨ (T = "set" ∧ ∃ S n, H p = some (.set S n))
  | _ => False
theorem tyV_is {pins : List (Addr × Obj)} {σ : St} {H : Hp} {s : Shared} {T : String} {x : V} {v : Value} (I : Inv X pins σ H s) (r : RelV x v) (ty : tyV X.K T x H) :
    s.TypeIs v T ∧ ∀ a, v = .ref a → ∃ ob, s.heap.get? a = some ob ∧ ob.dict = none := by
  cases x with
  | str z =>
    obtain ⟨t, rfl⟩ := r
    cases (show T = "str" from ty)
    exact ⟨typeIs_str s z t, fun _ e => nomatch e⟩
  | int i =>
    obtain ⟨t, rfl⟩ := r
    cases (show T = "int" from ty)
    exact ⟨typeIs_int s i t, fun _ e => nomatch e⟩
  | ref p =>
    cases r
    rcases ty with ⟨rfl, xs, hq⟩ | ⟨rfl, o, hk, hc, hd⟩ | ⟨rfl, hk⟩ | ⟨rfl, S, n, hk⟩
    · obtain ⟨its, _, pl, _⟩ := I.list hq
      refine ⟨pl.isList.typeIs, fun a e => ?_⟩
      cases e
      obtain ⟨o, n, e, c, hd, _⟩ := pl
      exact ⟨o, e, hd⟩
    · refine ⟨⟨o, I.kIn p o hk, hc⟩, fun a e => ?_⟩
      cases e
      exact ⟨o, I.kIn _ o hk, hd⟩
    · have z : ∃ o, s.heap.get? p = some o ∧ o.ExactDict := by
        rcases hk with ⟨kvs, hk⟩ | ⟨kvs, hk⟩
        · obtain ⟨_, _, _, _, o, _, _, e, ex, _⟩ := I.hok p _ hk
          exact ⟨o, e, ex⟩
        · obtain ⟨_, _, _, _, o, _, _, e, ex, _⟩ := I.hok p _ hk
          exact ⟨o, e, ex⟩
      obtain ⟨o, e, ex⟩ := z
      refine ⟨⟨o, e, ex.1⟩, fun a e2 => ?_⟩
      cases e2
      exact ⟨o, e, ex.2.1⟩
    · obtain ⟨o, _, _, _, e, ex, _⟩ := I.hok p _ hk
      refine ⟨⟨o, e, ex.1⟩, fun a e2 => ?_⟩
      cases e2
      exact ⟨o, e, ex.2.1⟩
  | _ => exact False.elim ty
def tBM (K : PySem.W.Frag) (T : String) (r : V → List V → Hp → VK → Prop) (to : TE) (t : TA) : TE := fun σ H Q => to σ H fun x H1 => tyV K T x H1 ∧ t σ H1 fun xs H2 => r x xs H2 Q
variable {o e : Expr} {es : List Expr} {to : TE} {t : TA} {name : Str} {apos cpos : Pos} {T id : String} {r : V → List V → Hp → VK → Prop}
theorem pe_bm (pa : PlainAttrs T) (slot : Slot T name id) (hty : typeOf (.builtin id) = pure (.type "method_descriptor")) (hm : MtR X id r) (ho : PE X o to) (ha : PA X (e :: es) t)
    (hbase : attributeBase o name X.env (eval o X.env) = eval o X.env := by rfl)
    (hfew : ((backTo cpos (starEach (e :: es) X.env)).all (fun x => !x.1) && (backToKw cpos (keywordEach [] X.env)).all (fun x => x.1.isSome)
      && decide ((e :: es).length + ([] : List Keyword).length + (if ([] : List Keyword).isEmpty then 0 else 1) < 30)) = true := by rfl)
    (hline : (apos.endLine == cpos.line) = true := by rfl) (hs : starEach (e :: es) X.env = (false, eval e X.env) :: starEach es X.env := by rfl) (hplain : (backTo cpos (starEach es X.env)).any (·.1) = false := by rfl) :
    PE X (.Call (.Attribute o name apos) (e :: es) [] cpos) (tBM X.K T r to t) := by
  intro pins s σ H Q I h
  refine wpAny_Call_method_late hbase hfew hline rfl (thn (ho pins s σ H _ I h) fun v s1 ⟨x, H1, I1, r1, ty, q1⟩ => ?_)
  obtain ⟨h1, h2⟩ := tyV_is I1 r1 ty
  refine ⟨T, id, pa, slot, hty, h1, h2, ?_⟩
  have hA := ha cpos pins s1 σ H1 _ I1 q1
  rw [hs] at hA ⊢
  refine Calls.callWith_builtin (by show (false || (backTo cpos (starEach es X.env)).any (·.1)) = false; rw [hplain] <;> rfl) (Calls.evalArgs_plain ?_)
  exact thn hA fun us s2 ⟨vs, H2, I2, r2, q2⟩ => hm pins s2 σ H2 x vs v us Q I2 r1 r2 q2
/- xs.append(e), list.index on a module's tuple .. are MtR facts of 06m -/
end
end L2
namespace L2
open PySem PySem.Spec PyProof.Rows
def MtM (X : Cx) (id : String) (r : V → List V → Hp → VK → Prop) : Prop :=
  ∀ (pins : List (Addr × Obj)) (s : Shared) (σ : St) (H : Hp) (x : V) (xs : List V) (v : Value) (us : List Value) (Q : VK), Inv X pins σ H s → RelV x v → Vals xs us → r x xs H Q →
    wpAny (model X.prog X.w) X.A (call (.builtin id) (v :: us)) (EP X pins σ Q) X.xe s
/-! ### lists of values -/
theorem Vals.one : ∀ {x : V} {us : List Value}, Vals [x] us → ∃ u, us = [u] ∧ RelV x u
  | _, _, .cons r .nil => ⟨_, rfl, r⟩
section
variable {X : Cx} {pins : List (Addr × Obj)} {σ : St} {H : Hp} {s : Shared} {l b : Addr} {xs ys zs : List V}
/-! ### the two steps: a tracked list is rewritten, a new list is laid -/
theorem Inv.lset {its its' : List Value} {n : Nat} {f : Array Value → Array Value} {t' : Nat} (I : Inv X pins σ H s) (hH : H l = some (.lst xs))
    (e : s.heap.get? l = some { cls := .type "list", data := .seq its.toArray n }) (hf : f its.toArray = its'.toArray) (hv : Vals ys its') (hz : ys.length ≤ sizeLine) :
    Inv X pins σ (upd H l (.lst ys)) { s with heap := s.heap.update l (Obj.mapSeq f), toks := t' } := by
  have q := PySem.IsL.update e f
  rw [hf] at q
  refine I.write (x := l) (e := l) (by rw [hH]; exact trivial) (.inl rfl) (fun b' u hb hu => (Heap.get?_update_other s.heap (Obj.mapSeq f) (Ne.symm hb)).trans hu) ⟨_, q⟩ ?_
  exact ⟨hz, its', _, hv, q⟩
theorem Inv.lnew {its : List Value} {t' : Nat} (I : Inv X pins σ H s) (hv : Vals ys its) (hz : ys.length ≤ sizeLine) :
    Inv X pins σ (upd H s.heap.objs.size (.lst ys)) { s with heap := s.heap.push { cls := .type "list", data := .seq its.toArray }, toks := t' } :=
  I.laid (fun _ _ q => Heap.get?_push_of_some _ q) (Nat.le_refl _) ⟨hz, its, 0, hv, Heap.get?_push_size _ rfl⟩
theorem Inv.fresh (I : Inv X pins σ H s) : H s.heap.objs.size = none := I.hok.fresh (Nat.le_refl _)
theorem Inv.lstM (I : Inv X pins σ H s) (hH : H l = some (.lst xs)) : xs.length ≤ sizeLine ∧ ∃ (its : List Value) (n : Nat), Vals xs its ∧ xs.length = its.length ∧ s.heap.get? l = some { cls := .type "list", data := .seq its.toArray n } := by
  obtain ⟨z, its, n, r, e⟩ := I.hok l _ hH
  exact ⟨z, its, n, r, r.length, e⟩
theorem notLongL {n : Nat} (h : n ≤ sizeLine) : Builtin.List.listTooLong n = false := by
  unfold Builtin.List.listTooLong
  exact decide_eq_false (by omega)
end
section
variable {X : Cx}
/-! ### methods -/
def rAppend : V → List V → Hp → VK → Prop := fun x vs H Q => ∃ l xs y, x = .ref l ∧ vs = [y] ∧ H l = some (.lst xs) ∧ xs.length < sizeLine ∧ Q .non (upd H l (.lst (xs ++ [y])))
theorem mt_append : MtM X "list.append" rAppend := by
  intro pins s σ H x vs v us Q I rx rv h
  obtain ⟨l, xs, y, rfl, rfl, hH, hz, q⟩ := h
  cases rx
  obtain ⟨u, rfl, ru⟩ := rv.one
  obtain ⟨z, its, n, r, hl, e⟩ := I.lstM hH
  refine call_meets F.slot_list_append ⟨_, e, rfl⟩ F.entry_list_append (F.args_list_append_2 _ _) (PySem.list_append l its.toArray n u (by rw [List.size_toArray]; omega)) ⟨e, ?_⟩
  refine ⟨.non, _, I.lset (its' := its ++ [u]) hH e (by simp) (r.append (.cons ru .nil)) ?_, rfl, q⟩
  rw [List.length_append, List.length_singleton]
  omega
def rExtend : V → List V → Hp → VK → Prop := fun x vs H Q => ∃ l b xs zs, x = .ref l ∧ vs = [.ref b] ∧ H l = some (.lst xs) ∧ H b = some (.lst zs) ∧ xs.length + zs.length ≤ sizeLine ∧ Q .non (upd H l (.lst (xs ++ zs)))
theorem mt_extend : MtM X "list.extend" rExtend := by
  intro pins s σ H x vs v us Q I rx rv h
  obtain ⟨l, b, xs, zs, rfl, rfl, hH, hB, hz, q⟩ := h
  cases rx
  obtain ⟨u, rfl, ru⟩ := rv.one
  cases ru
  obtain ⟨z, its, n, r, hl, e⟩ := I.lstM hH
  obtain ⟨z2, its2, n2, r2, hl2, e2⟩ := I.lstM hB
  have hsz : its.toArray.size + its2.toArray.size ≤ sizeLine := by rw [List.size_toArray, List.size_toArray]; omega
  have hlong : ¬ (!its.toArray.isEmpty && Builtin.List.listTooLong (its.toArray.size + its2.toArray.size)) = true := by
    rw [notLongL hsz, Bool.and_false]
    exact Bool.false_ne_true
  refine call_meets F.slot_list_extend ⟨_, e, rfl⟩ F.entry_list_extend (F.args_list_extend_2 _ _)
    (AutoSeq1.list_extend_list_list_0 l its.toArray n b its2.toArray n2 hlong (by rw [List.size_toArray]; omega) (by omega)) ⟨e, e2, ?_⟩
  refine ⟨.non, _, I.lset (its' := its ++ its2) hH e (by simp) (r.append r2) ?_, rfl, q⟩
  rw [List.length_append]
  omega
/-! ### list + list, list += list, list * int -/
def rCat : R2 := fun x y H Q => ∃ l b xs zs, x = .ref l ∧ y = .ref b ∧ H l = some (.lst xs) ∧ H b = some (.lst zs) ∧ xs.length + zs.length ≤ sizeLine ∧ ∀ p, H p = none → Q (.ref p) (upd H p (.lst (xs ++ zs)))
theorem op_cat : OpR X (binaryOp .Add) rCat := by
  intro pins s σ H x y v u Q I rx ry h
  obtain ⟨l, b, xs, zs, rfl, rfl, hH, hB, hz, q⟩ := h
  cases rx
  cases ry
  obtain ⟨z, its, n, r, hl, e⟩ := I.lstM hH
  obtain ⟨z2, its2, n2, r2, hl2, e2⟩ := I.lstM hB
  refine PySem.P.add_list e e2 ?_ (by rw [List.size_toArray, List.size_toArray]; omega)
  have ea : its.toArray ++ its2.toArray = (its ++ its2).toArray := by simp
  rw [ea]
  exact ⟨.ref _, _, I.lnew (t' := s.toks) (r.append r2) (by rw [List.length_append]; omega), rfl, q _ I.fresh⟩
/-! ### del xs[i] -/
end
/-! ### xs[a:b] = ys -/
section
variable {prog : Program} {w : World} {A : Around} {E : Value → Shared → Prop} {s : Shared}
end
section
variable {X : Cx}
end
end L2
namespace L2
open PySem PySem.Spec PyProof.Rows
theorem Vals.ints : ∀ {ns : List Int} {us : List Value}, Vals (ns.map V.int) us → IntsAre us ns
  | [], us, h => by
    rw [List.map_nil] at h
    cases h
    exact IntsAre.nil
  | n :: ns, us, h => by
    rw [List.map_cons] at h
    cases h with
    | cons r t =>
      obtain ⟨k, rfl⟩ := r
      exact IntsAre.cons n k (Vals.ints t)
theorem vals_of_ints : ∀ {us : List Value} {ns : List Int}, IntsAre us ns → Vals (ns.map V.int) us
  | _, _, .nil => by rw [List.map_nil]; exact Paired.nil
  | _, _, .cons n t h => by rw [List.map_cons]; exact Paired.cons (show RelV (V.int n) (Value.int n t) from ⟨t, rfl⟩) (vals_of_ints h)
theorem Vals.bls : ∀ {bs : List Bool} {us : List Value}, Vals (bs.map V.bl) us → us = bs.map Value.bool
  | [], us, h => by
    rw [List.map_nil] at h
    cases h
    rfl
  | b :: bs, us, h => by
    rw [List.map_cons] at h
    cases h with
    | cons r t =>
      cases r
      rw [Vals.bls t, List.map_cons]
theorem Vals.ref1 {a : Addr} {us : List Value} (r : Vals [V.ref a] us) : us = [Value.ref a] := by
  cases r with
  | cons r t =>
    cases t
    cases r
    rfl
/-! ### the library's walks over a list of ints, kept objects alone -/
section
variable {prog : Program} {w : World} {A : Around} {E : Value → Shared → Prop} {s : Shared} {l : Addr} {its : List Value} {ns : List Int} {Q : Value → Shared → Prop}
theorem sum_raw (hh : A.handled = none) (hl : s.heap.IsList l its.toArray) (hi : IntsAre its ns)
    (h : ∀ h' tk t', (∀ b o, s.heap.get? b = some o → h'.get? b = some o) → Q (.int ns.sum t') { s with heap := h', toks := tk }) : wpAny (model prog w) A (call (.builtin "sum") [.ref l]) Q E s := by
  obtain ⟨xs, e⟩ := hi.allInts.items
  have hn : numsOf (intItems xs).toList = ns := by rw [← e]; exact hi.numsOf
  rw [nums_intItems] at hn
  rw [e] at hl
  refine PySem.sum_intListG hh hl fun h' tk t' hk => ?_
  have := h h' tk t' hk
  rw [preSum_eq, List.take_of_length_le (by simp), hn]; exact this
theorem max_raw (hh : A.handled = none) (hl : s.heap.IsList l its.toArray) (hi : IntsAre its ns) (hne : 0 < ns.length)
    (h : ∀ h' tk M t', (∀ b o, s.heap.get? b = some o → h'.get? b = some o) → M ∈ ns → (∀ a, a ∈ ns → a ≤ M) → Q (.int M t') { s with heap := h', toks := tk }) : wpAny (model prog w) A (call (.builtin "max") [.ref l]) Q E s := by
  obtain ⟨xs, e⟩ := hi.allInts.items
  have hn : numsOf (intItems xs).toList = ns := by rw [← e]; exact hi.numsOf
  rw [nums_intItems] at hn
  subst hn
  rw [e] at hl
  have hsz : 0 < xs.size := by simpa using hne
  refine PySem.max_intList hh hl hsz fun v h' tk hv hk => ?_
  obtain ⟨t, rfl⟩ := intItems_at hv
  obtain ⟨h1, h2⟩ := argBest_gt (numAt xs) (xs.size - 1)
  refine h h' tk _ t hk ?_ fun a ha => ?_
  · rw [numAt_eq]; exact PySem.getD_mem (by rw [List.length_map, Array.length_toList]; omega)
  · obtain ⟨j, hj, rfl⟩ := mem_getD ha
    rw [List.length_map, Array.length_toList] at hj
    rw [← numAt_eq]; exact h2 j (by omega)
theorem min_raw (hh : A.handled = none) (hl : s.heap.IsList l its.toArray) (hi : IntsAre its ns) (hne : 0 < ns.length)
    (h : ∀ h' tk M t', (∀ b o, s.heap.get? b = some o → h'.get? b = some o) → M ∈ ns → (∀ a, a ∈ ns → M ≤ a) → Q (.int M t') { s with heap := h', toks := tk }) : wpAny (model prog w) A (call (.builtin "min") [.ref l]) Q E s := by
  obtain ⟨xs, e⟩ := hi.allInts.items
  have hn : numsOf (intItems xs).toList = ns := by rw [← e]; exact hi.numsOf
  rw [nums_intItems] at hn
  subst hn
  rw [e] at hl
  have hsz : 0 < xs.size := by simpa using hne
  refine PySem.min_intList hh hl hsz fun v h' tk hv hk => ?_
  obtain ⟨t, rfl⟩ := intItems_at hv
  obtain ⟨h1, h2⟩ := argBest_lt (numAt xs) (xs.size - 1)
  refine h h' tk _ t hk ?_ fun a ha => ?_
  · rw [numAt_eq]; exact PySem.getD_mem (by rw [List.length_map, Array.length_toList]; omega)
  · obtain ⟨j, hj, rfl⟩ := mem_getD ha
    rw [List.length_map, Array.length_toList] at hj
    rw [← numAt_eq]; exact h2 j (by omega)
end
/-! ### the calls, by values (CallR of 03t; MtR of 06l) -/
section
variable {X : Cx}
/-- sum(xs) of a list of ints -/
def rSum (K : PySem.W.Frag) : List V → Hp → VK → Prop := fun vs H Q => ∃ (a : Addr) (ns : List Int), vs = [V.ref a] ∧ SqL K H a (ns.map V.int) ∧ Q (.int ns.sum) H
def rMin (K : PySem.W.Frag) : List V → Hp → VK → Prop := fun vs H Q => ∃ (a : Addr) (ns : List Int), vs = [V.ref a] ∧ SqL K H a (ns.map V.int) ∧ 0 < ns.length ∧ ∀ m, m ∈ ns → (∀ y, y ∈ ns → m ≤ y) → Q (.int m) H
theorem cr_sum (hc : X.calm = true) : CallR X (.builtin "sum") (rSum X.K) := by
  intro pins s σ H vs us Q I r h
  obtain ⟨a, ns, rfl, hs, q⟩ := h
  obtain ⟨its, rv, hl, _⟩ := I.list hs
  rw [Vals.ref1 r]
  exact sum_raw (I.ok.hd hc) hl.isList rv.ints fun h' tk t' hk => ⟨.int _, H, I.kept hk, ⟨_, rfl⟩, q⟩
theorem cr_min (hc : X.calm = true) : CallR X (.builtin "min") (rMin X.K) := by
  intro pins s σ H vs us Q I r h
  obtain ⟨a, ns, rfl, hs, hne, q⟩ := h
  obtain ⟨its, rv, hl, _⟩ := I.list hs
  rw [Vals.ref1 r]
  exact min_raw (I.ok.hd hc) hl.isList rv.ints hne fun h' tk m t' hk h1 h2 => ⟨.int _, H, I.kept hk, ⟨_, rfl⟩, q m h1 h2⟩
/-! sorted, sort (fewer than 64 items: the library's own bound) -/
def rSorted (K : PySem.W.Frag) : List V → Hp → VK → Prop := fun vs H Q => ∃ (a : Addr) (ns : List Int), vs = [V.ref a] ∧ SqL K H a (ns.map V.int) ∧ ns.length < 64 ∧
  ∀ (ns' : List Int) (p : Addr), ns'.Perm ns → ns'.Pairwise (· ≤ ·) → H p = none → Q (.ref p) (upd H p (.lst (ns'.map V.int)))
theorem small64 {n : Nat} (h : n < 64) : n ≤ sizeLine := by rw [sizeLine_eq]; omega
theorem cr_sorted : CallR X (.builtin "sorted") (rSorted X.K) := by
  intro pins s σ H vs us Q I r h
  obtain ⟨a, ns, rfl, hs, h64, q⟩ := h
  obtain ⟨its, rv, hl, _⟩ := I.list hs
  rw [Vals.ref1 r]
  have hi := rv.ints
  refine PyProof.Rows.sorted_ints hl.isList hi (by rw [hi.length]; exact h64) fun out ns' h1 h2 h3 => ?_
  obtain ⟨ep, he'⟩ := PyProof.Rows.sortedAll_at s.heap its out
  have hlen : (ns'.map V.int).length ≤ sizeLine := by rw [List.length_map, h2.length_eq]; exact small64 h64
  exact ⟨.ref _, upd H (s.heap.objs.size + 1) (.lst (ns'.map V.int)), I.laid (t' := s.toks) (fun _ _ => PyProof.Rows.sortedAll_old) (Nat.le_succ _) ⟨hlen, out.toList, ep, vals_of_ints h1, he'⟩, rfl, q ns' _ h2 h3 (I.hok.fresh (Nat.le_succ _))⟩
end
/-! ### list.index, flat items -/
section
variable {X : Cx}
end
/-! ### type(x) of an own instance; is, is not of a module's class -/
section
variable {X : Cx}
end
/-! ### any(xs), all(xs) of a list of bools -/
theorem iter_any {prog : Program} {w : World} {A : Around} {E : Value → Shared → Prop} {s : Shared} {l : Addr} {items : Array Value} {Q : Value → Shared → Prop} (hl : s.heap.IsList l items)
    (h : ∀ s₂ : Shared, s₂ = { s with heap := s.heap.push { cls := .type "list_iterator", data := .fields #[.ref l, .int 0 0] } } →
      (s₂.heap.IsListIter s.heap.objs.size l 0 ∧ s₂.heap.IsList l items) → l ≠ s.heap.objs.size → Q (.ref s.heap.objs.size) s₂) : wpAny (model prog w) A (pyIter (.ref l)) Q E s := by
  have hlt : l < s.heap.objs.size := by obtain ⟨_, e, _⟩ := hl; exact Heap.lt_size e
  exact wpAny_pyIter_list hl (h _ rfl ⟨⟨_, Heap.get?_push_size _ rfl, rfl, rfl⟩, hl.push _⟩ (Nat.ne_of_lt hlt))
theorem truth_bools {prog : Program} {w : World} {A : Around} {bs : List Bool} {its : List Value} (e : its = bs.map Value.bool) :
    TruthOf prog w A (fun i v => its.toArray[i]? = some v) (fun i => bs.getD i false) := fun i v s Q E hv hq => by
  have hv' : its[i]? = some v := by simpa using hv
  rw [e, List.getElem?_map] at hv'
  obtain ⟨b, hb, rfl⟩ := Option.map_eq_some_iff.mp hv'
  have hg : bs.getD i false = b := by rw [List.getD_eq_getElem?_getD, hb] <;> rfl
  have hq' : Q (bs.getD i false) s := hq
  rw [hg] at hq'
  exact wpAny_truthy_bool hq'
theorem any_range : ∀ bs : List Bool, (List.range bs.length).any (fun i => bs.getD i false) = bs.any id
  | [] => rfl
  | b :: bs => by
    rw [List.length_cons, List.range_succ_eq_map, List.any_cons, List.any_map, List.any_cons, ← any_range bs]
    all_goals rfl
theorem all_range : ∀ bs : List Bool, (List.range bs.length).all (fun i => bs.getD i false) = bs.all id
  | [] => rfl
  | b :: bs => by
    rw [List.length_cons, List.range_succ_eq_map, List.all_cons, List.all_map, List.all_cons, ← all_range bs]
    all_goals rfl
section
variable {X : Cx}
def rAll (K : PySem.W.Frag) : List V → Hp → VK → Prop := fun vs H Q => ∃ (a : Addr) (bs : List Bool), vs = [V.ref a] ∧ SqL K H a (bs.map V.bl) ∧ Q (.bl (bs.all id)) H
theorem cr_all (hc : X.calm = true) : CallR X (.builtin "all") (rAll X.K) := by
  intro pins s σ H vs us Q I r h
  obtain ⟨a, bs, rfl, hs, q⟩ := h
  obtain ⟨its, rv, hl, _⟩ := I.list hs
  rw [Vals.ref1 r]
  have hb := rv.bls
  refine call_all_walk (iter_any hl.isList fun s₂ e2 st hne => ?_)
  subst e2
  refine ⟨_, _, _, _, _, _, _, rfl, Walks.list (A := X.A.in1) (I.ok.hd hc) _ a hne its.toArray, st, truth_bools hb, fun h' tk hk => ?_⟩
  refine ⟨.bl _, H, I.kept fun b o eo => hk b o (fun hmem => ?_) (Heap.get?_push_of_some _ eo), ?_, q⟩
  · rcases List.mem_cons.mp hmem with e1 | hmem
    · exact absurd (e1 ▸ Heap.lt_size eo) (Nat.lt_irrefl _)
    · cases hmem
  · show Value.bool _ = Value.bool _
    rw [← all_range, hb, List.size_toArray, List.length_map]
end
/-! ### == and != of data at any depth: none, bools, ints, texts, lists, tuples -/
mutual
inductive Dp (K : PySem.W.Frag) (H : Hp) : V → PyData → Prop
  | non : Dp K H .non .none
  | bl (b : Bool) : Dp K H (.bl b) (.bool b)
  | int (i : Int) : Dp K H (.int i) (.int i)
  | str (x : Str) : Dp K H (.str x) (.str x)
  | lst {a : Addr} {xs : List V} {ds : List PyData} : SqL K H a xs → DpAll K H xs ds → Dp K H (.ref a) (.list ds)
  | tup {a : Addr} {xs : List V} {ds : List PyData} : SqT K H a xs → DpAll K H xs ds → Dp K H (.ref a) (.tuple ds)
inductive DpAll (K : PySem.W.Frag) (H : Hp) : List V → List PyData → Prop
  | nil : DpAll K H [] []
  | cons {v : V} {vs : List V} {d : PyData} {ds : List PyData} : Dp K H v d → DpAll K H vs ds → DpAll K H (v :: vs) (d :: ds)
end
section
variable {X : Cx} {pins : List (Addr × Obj)} {σ : St} {H : Hp} {s : Shared}
mutual
theorem Dp.reads (I : Inv X pins σ H s) : ∀ (d : PyData) (v : V) (u : Value), Dp X.K H v d → RelV v u → ∃ as, Reads s.heap u d as
  | .none, _, _, h, r => by
    cases h
    cases r
    exact ⟨_, Reads.none⟩
  | .bool b, _, _, h, r => by
    cases h
    cases r
    exact ⟨_, Reads.bool b⟩
  | .int i, _, _, h, r => by
    cases h
    obtain ⟨t, rfl⟩ := r
    exact ⟨_, Reads.int i t⟩
  | .str x, _, _, h, r => by
    cases h
    obtain ⟨t, rfl⟩ := r
    exact ⟨_, Reads.str x t⟩
  | .list ds, _, _, h, r => by
    cases h with
    | lst hs ha =>
      cases r
      obtain ⟨its, rv, ⟨o, n, ho, hc, _, hd⟩, _⟩ := I.list hs
      obtain ⟨as, hr⟩ := Dp.readsAll I ds _ its ha rv
      exact ⟨_, Reads.list ho hc hd hr⟩
  | .tuple ds, _, _, h, r => by
    cases h with
    | tup hs ha =>
      cases r
      obtain ⟨its, rv, ⟨o, ho, hc, n, hd⟩, _⟩ := I.tuple hs
      obtain ⟨as, hr⟩ := Dp.readsAll I ds _ its ha rv
      exact ⟨_, Reads.tuple ho hc hd hr⟩
  | .dict _, _, _, h, _ => by cases h
theorem Dp.readsAll (I : Inv X pins σ H s) : ∀ (ds : List PyData) (vs : List V) (us : List Value), DpAll X.K H vs ds → Vals vs us → ∃ as, ReadsAll s.heap us ds as
  | [], _, _, h, r => by
    cases h
    cases r
    exact ⟨_, ReadsAll.nil⟩
  | d :: ds, _, _, h, r => by
    cases h with
    | cons h1 h2 =>
      cases r with
      | cons r1 r2 =>
        obtain ⟨as, q1⟩ := Dp.reads I d _ _ h1 r1
        obtain ⟨bs, q2⟩ := Dp.readsAll I ds _ _ h2 r2
        exact ⟨_, ReadsAll.cons q1 q2⟩
end
end
section
variable {X : Cx}
end
end L2
namespace L2
open PySem PySem.Spec PyProof.Rows
abbrev CellAt (h : Heap) (c : Addr) (v : Option Value) : Prop := h.IsCell c v
def relS (scope sc : Scope) : Scope :=
  { scope with names := scope.names.map fun (n, k) => if (k == .free && sc.kind == .function && sc.names.lookup n == some .cell) then (n, .cell) else (n, k) }
def cloFrom (cells : List (Str × Addr)) : List (Str × NameKind) → List (Str × Addr) → List (Str × Addr)
  | [], acc => acc
  | (n, k) :: r, acc => if k == .free then cloFrom cells r ((n, (cells.lookup n).getD 0) :: acc) else cloFrom cells r acc
theorem closure_loop (env : Env) (f : Str × NameKind → List (Str × Addr) → Sem (ForInStep (List (Str × Addr))))
    (hf : ∀ n k c, f (n, k) c = if k == .free then (do let a ← cellOf env n; pure (.yield ((n, a) :: c))) else pure (.yield c)) :
    ∀ (names : List (Str × NameKind)) (acc : List (Str × Addr)), (∀ y ∈ names, y.2 = .free → ∃ c, env.cells.lookup y.1 = some c) → forIn names acc f = pure (cloFrom env.cells names acc)
  | [], acc, _ => by rw [List.forIn_nil]; rfl
  | (n, k) :: r, acc, h => by
    rw [List.forIn_cons, hf]
    have ih := fun acc => closure_loop env f hf r acc fun y hy => h y (List.mem_cons_of_mem _ hy)
    unfold cloFrom
    by_cases hk : (k == NameKind.free) = true
    · rw [if_pos hk, if_pos hk]
      obtain ⟨c, hc⟩ := h (n, k) List.mem_cons_self (by simpa using hk)
      have e : cellOf env n = pure c := by unfold cellOf; rw [hc]
      rw [e]
      have e2 : (env.cells.lookup n).getD 0 = c := by rw [hc]; rfl
      rw [e2]
      exact ih _
    · rw [if_neg hk, if_neg hk]
      exact ih _
theorem closure_ok {scope : Scope} {env : Env} (h : ∀ y ∈ scope.names, y.2 = .free → ∃ c, env.cells.lookup y.1 = some c) : closureFor scope env = pure (cloFrom env.cells scope.names []) := by
  simp only [closureFor]
  rw [closure_loop env _ (fun n k c => rfl) scope.names [] h]
  rfl
theorem mem_lookup {α : Type} : ∀ {l : List (Str × α)} {n : Str} {c : α}, (n, c) ∈ l → ∃ c', l.lookup n = some c'
  | (k, v) :: r, n, c, h => by
    rw [List.lookup_cons]
    cases hb : n == k with
    | true => exact ⟨_, rfl⟩
    | false =>
      rcases List.mem_cons.mp h with e | h
      · cases e; simp at hb
      · exact mem_lookup h
theorem cloFrom_mem {cells : List (Str × Addr)} : ∀ {names : List (Str × NameKind)} {acc : List (Str × Addr)} {n : Str} {c : Addr}, (n, c) ∈ cloFrom cells names acc → (n, c) ∈ acc ∨ ((n, .free) ∈ names ∧ c = (cells.lookup n).getD 0)
  | [], _, _, _, h => .inl h
  | (m, k) :: r, acc, n, c, h => by
    unfold cloFrom at h
    split at h
    · rename_i hk
      have hk : k = .free := by simpa using hk
      rcases cloFrom_mem h with h | ⟨h1, h2⟩
      · rcases List.mem_cons.mp h with e | h
        · cases e; exact .inr ⟨hk ▸ List.mem_cons_self, rfl⟩
        · exact .inl h
      · exact .inr ⟨List.mem_cons_of_mem _ h1, h2⟩
    · rcases cloFrom_mem h with h | ⟨h1, h2⟩
      · exact .inl h
      · exact .inr ⟨List.mem_cons_of_mem _ h1, h2⟩
theorem cloFrom_acc {cells : List (Str × Addr)} : ∀ {names : List (Str × NameKind)} {acc : List (Str × Addr)} {p : Str × Addr}, p ∈ acc → p ∈ cloFrom cells names acc
  | [], _, _, h => h
  | (m, k) :: r, acc, p, h => by
    unfold cloFrom
    split
    · exact cloFrom_acc (List.mem_cons_of_mem _ h)
    · exact cloFrom_acc h
theorem cloFrom_has {cells : List (Str × Addr)} : ∀ {names : List (Str × NameKind)} {acc : List (Str × Addr)} {n : Str}, (n, .free) ∈ names → (n, (cells.lookup n).getD 0) ∈ cloFrom cells names acc
  | (m, k) :: r, acc, n, h => by
    unfold cloFrom
    rcases List.mem_cons.mp h with e | h
    · cases e
      exact cloFrom_acc List.mem_cons_self
    · split
      · exact cloFrom_has h
      · exact cloFrom_has h
theorem cells_mem : ∀ {names : List (Str × NameKind)} {h : Heap} {acc : List (Str × Addr)} {x : Str} {c : Addr}, (x, c) ∈ cellsFrom h.objs.size names acc →
    (x, c) ∈ acc ∨ ((x, .cell) ∈ names ∧ h.objs.size ≤ c ∧ CellAt (pushCells h names) c none)
  | [], _, _, _, _, h => .inl h
  | (n, k) :: r, h, acc, x, c, hm => by
    unfold cellsFrom at hm
    unfold pushCells
    split at hm
    · rename_i hk
      rw [if_pos hk]
      have hk : k = .cell := by simpa using hk
      rw [← Heap.size_push h { cls := .type "cell", data := .cell none }] at hm
      rcases cells_mem hm with hm | ⟨h1, h2, h3⟩
      · rcases List.mem_cons.mp hm with e | hm
        · cases e
          exact .inr ⟨hk ▸ List.mem_cons_self, Nat.le_refl _, _, pushCells_keeps r _ _ _ (Heap.get?_push_size _ rfl), rfl⟩
        · exact .inl hm
      · rw [Heap.size_push] at h2
        exact .inr ⟨List.mem_cons_of_mem _ h1, Nat.le_of_succ_le h2, h3⟩
    · rename_i hk
      rw [if_neg hk]
      rcases cells_mem hm with hm | ⟨h1, h2, h3⟩
      · exact .inl hm
      · exact .inr ⟨List.mem_cons_of_mem _ h1, h2, h3⟩
theorem cells_acc : ∀ {names : List (Str × NameKind)} {n : Nat} {acc : List (Str × Addr)} {p : Str × Addr}, p ∈ acc → p ∈ cellsFrom n names acc
  | [], _, _, _, h => h
  | (m, k) :: r, n, acc, p, h => by
    unfold cellsFrom
    split
    · exact cells_acc (List.mem_cons_of_mem _ h)
    · exact cells_acc h
theorem cells_has : ∀ {names : List (Str × NameKind)} {n : Nat} {acc : List (Str × Addr)} {x : Str}, (x, .cell) ∈ names → ∃ c, (x, c) ∈ cellsFrom n names acc
  | (m, k) :: r, n, acc, x, h => by
    unfold cellsFrom
    rcases List.mem_cons.mp h with e | h
    · cases e
      exact ⟨n, cells_acc List.mem_cons_self⟩
    · split
      · exact cells_has h
      · exact cells_has h
theorem cells_inj : ∀ {names : List (Str × NameKind)} {h : Heap} {acc : List (Str × Addr)} {x y : Str} {c : Addr}, (∀ p ∈ acc, p.2 < h.objs.size) → (∀ x y c, (x, c) ∈ acc → (y, c) ∈ acc → x = y) →
    (x, c) ∈ cellsFrom h.objs.size names acc → (y, c) ∈ cellsFrom h.objs.size names acc → x = y
  | [], _, _, _, _, _, _, hi, h1, h2 => hi _ _ _ h1 h2
  | (n, k) :: r, h, acc, x, y, c, hl, hi, h1, h2 => by
    unfold cellsFrom at h1 h2
    split at h1
    · rename_i hk
      rw [if_pos hk] at h2
      rw [← Heap.size_push h { cls := .type "cell", data := .cell none }] at h1 h2
      refine cells_inj (h := h.push _) (fun p hp => ?_) (fun x y c a b => ?_) h1 h2
      · rw [Heap.size_push]
        rcases List.mem_cons.mp hp with rfl | hp
        · exact Nat.lt_succ_self _
        · exact Nat.lt_succ_of_lt (hl p hp)
      · rcases List.mem_cons.mp a with e | a <;> rcases List.mem_cons.mp b with e' | b
        · cases e; cases e'; rfl
        · cases e; exact absurd (hl _ b) (Nat.lt_irrefl _)
        · cases e'; exact absurd (hl _ a) (Nat.lt_irrefl _)
        · exact hi _ _ _ a b
    · rename_i hk
      rw [if_neg hk] at h2
      exact cells_inj hl hi h1 h2
theorem newEnv_comp {M : Model} {A : Around} {E : Value → Shared → Prop} {s : Shared} {scope : Scope} {globals : Addr} {closure : List (Str × Addr)} {qual : Str} {func : Option Addr} {code : Value} {around : Env} {builtins : Addr} {Q : Env → Shared → Prop}
    (h : Q (newEnv scope s.heap.objs.size globals (cellsFrom (s.heap.objs.size + 1) scope.names closure) qual func code (some around) builtins)
      { s with heap := pushCells (s.heap.push { cls := .type "dict", data := .dict #[] }) scope.names }) :
    wpAny M A (newFunctionEnv scope globals closure [] qual func code (some around) builtins) Q E s := by
  simp only [newFunctionEnv, Option.isSome_some, if_true]
  refine wpAny_bind (wpAny_alloc ?_)
  refine wpAny_bind (wpAny_layCells _ (fun n k c => rfl) scope.names closure _ _ ?_)
  rw [show ({ s with heap := s.heap.push { cls := .type "dict", data := .dict #[] } } : Shared).heap.objs.size = s.heap.objs.size + 1 from Heap.size_push ..]
  rw [List.forIn_nil]
  exact wpAny_bind (wpAny_pure (wpAny_pure h))
/-- every name of the written scope, in the scope that runs -/
theorem lookup_relS {sc : Scope} : ∀ {names : List (Str × NameKind)} {x : Str} {k : NameKind},
    (names.map fun (n, k) => if (k == NameKind.free && sc.kind == .function && sc.names.lookup n == some .cell) then (n, NameKind.cell) else (n, k)).lookup x = some k →
    ∃ k', names.lookup x = some k' ∧ (k = k' ∨ (k' = .free ∧ k = .cell))
  | [], _, _, h => by simp at h
  | (n, k₀) :: r, x, k, h => by
    have ih := @lookup_relS sc r x k
    have h' : List.lookup x ((if (k₀ == NameKind.free && sc.kind == .function && sc.names.lookup n == some .cell) = true then (n, NameKind.cell) else (n, k₀)) :: (r.map _)) = some k := h
    cases hx : x == n with
    | true =>
      simp only [List.lookup_cons, hx]
      by_cases hc : (k₀ == NameKind.free && sc.kind == .function && sc.names.lookup n == some .cell) = true
      · rw [if_pos hc] at h'
        simp only [List.lookup_cons, hx] at h'
        cases h'
        simp only [Bool.and_eq_true, beq_iff_eq] at hc
        exact ⟨k₀, rfl, .inr ⟨hc.1.1, rfl⟩⟩
      · rw [if_neg hc] at h'
        simp only [List.lookup_cons, hx] at h'
        cases h'
        exact ⟨_, rfl, .inl rfl⟩
    | false =>
      simp only [List.lookup_cons, hx]
      by_cases hc : (k₀ == NameKind.free && sc.kind == .function && sc.names.lookup n == some .cell) = true
      · rw [if_pos hc] at h'
        simp only [List.lookup_cons, hx] at h'
        exact ih h'
      · rw [if_neg hc] at h'
        simp only [List.lookup_cons, hx] at h'
        exact ih h'
/-- the names of a comprehension's block: its own (with their places in N), or captured -/
structure BlkOk (N : List Str) (sc scope : Scope) (own : List (Str × Nat)) : Prop where
  kind : scope.kind = .function
  uniq : ∀ y ∈ scope.names, scope.names.lookup y.1 = some y.2
  ix : ∀ p ∈ own, N[p.2]? = some p.1
  free : ∀ y ∈ scope.names, y.2 = .free → sc.names.lookup y.1 = some .cell ∨ sc.names.lookup y.1 = some .free
  own : ∀ y ∈ scope.names, y.2 = .local ∨ y.2 = .cell → y.1 ∈ own.map (·.1) ∨ y.1 ∉ N
/-- the slots of the block's own names forgotten -/
def wipe (σ : St) : List Nat → St
  | [] => σ
  | v :: vs => (wipe σ vs).set v none
theorem wipe_length (σ : St) : ∀ vs : List Nat, (wipe σ vs).length = σ.length
  | [] => rfl
  | v :: vs => by unfold wipe; rw [List.length_set, wipe_length σ vs]
theorem wipe_some {σ : St} {i : Nat} {x : V} : ∀ {vs : List Nat}, (wipe σ vs)[i]? = some (some x) → σ[i]? = some (some x) ∧ i ∉ vs
  | [], h => ⟨h, by simp⟩
  | v :: vs, h => by
    unfold wipe at h
    by_cases hi : v = i
    · subst hi
      by_cases hv : v < (wipe σ vs).length
      · rw [List.getElem?_set_self hv] at h; cases h
      · rw [List.getElem?_eq_none (by simpa using hv)] at h; cases h
    · rw [List.getElem?_set_ne hi] at h
      obtain ⟨h1, h2⟩ := wipe_some h
      exact ⟨h1, by simp only [List.mem_cons, not_or]; exact ⟨fun e => hi e.symm, h2⟩⟩
/-- the context of a block that starts at s, its iterator's objects at fp -/
abbrev Cx.blk (X : Cx) (s : Shared) (H : Hp) (scope : Scope) (cenv : Env) (fp : List Addr) : Cx := { X with s_0 := s, H_0 := H, env := cenv, outer := X.stack, ex := fp, fn := fun x => scope.names.lookup x == some .cell, pn := [], xe := fun _ _ => False }
section
variable {X : Cx} {pins : List (Addr × Obj)} {σ : St} {H : Hp} {s : Shared}
theorem block_start {scope : Scope} {own : List (Str × Nat)} {fp : List Addr} (I : Inv X pins σ H s) (ok : BlkOk X.N X.env.scope scope own) (hN : X.N.Nodup) (hfp : ∀ b ∈ fp, FpOk X pins H b ∧ b < s.heap.objs.size) :
    Inv (X.blk s H scope (compEnvC scope (cellsFrom (s.heap.objs.size + 1) scope.names (cloFrom X.env.cells scope.names [])) s.heap.objs.size X.env) fp) [] (wipe σ (own.map (·.2))) H { s with heap := pushCells (s.heap.push { cls := .type "dict", data := .dict #[] }) scope.names } := by
  have hfree : ∀ y ∈ scope.names, y.2 = .free → ∃ c, X.env.cells.lookup y.1 = some c := fun y hy e => by
    rcases ok.free y hy e with k | k
    · exact I.ok.has _ (.inl k)
    · exact I.ok.has _ (.inr k)
  generalize hcenv : compEnvC scope (cellsFrom (s.heap.objs.size + 1) scope.names (cloFrom X.env.cells scope.names [])) s.heap.objs.size X.env = cenv
  have kp : ∀ b o, s.heap.get? b = some o → (pushCells (s.heap.push { cls := .type "dict", data := .dict #[] }) scope.names).get? b = some o := fun b o e => pushCells_keeps _ _ _ _ (Heap.get?_push_of_some _ e)
  have hL : cenv.locals = s.heap.objs.size := by rw [← hcenv]; rfl
  have hcl : cenv.cells = cellsFrom (s.heap.objs.size + 1) scope.names (cloFrom X.env.cells scope.names []) := by rw [← hcenv]; rfl
  have hsc : cenv.scope = relS scope X.env.scope := by rw [← hcenv]; rfl
  rw [← Heap.size_push s.heap { cls := .type "dict", data := .dict #[] }] at hcl
  have cm : ∀ {y c}, (y, c) ∈ cloFrom X.env.cells scope.names [] → X.env.cells.lookup y = some c ∧ c < s.heap.objs.size := fun {y c} hm => by
    rcases cloFrom_mem hm with hm | ⟨h1, rfl⟩
    · cases hm
    · obtain ⟨c, hc⟩ := hfree _ h1 rfl
      rw [hc]
      obtain ⟨w, z⟩ := I.cell _ _ hc
      exact ⟨rfl, z.lt⟩
  have mem : ∀ {y c}, cenv.cells.lookup y = some c → (X.env.cells.lookup y = some c ∧ c < s.heap.objs.size) ∨ (s.heap.objs.size + 1 ≤ c ∧ CellAt (pushCells (s.heap.push { cls := .type "dict", data := .dict #[] }) scope.names) c none) := fun {y c} e => by
    rw [hcl] at e
    rcases cells_mem (PySem.mem_of_lookup e) with hm | ⟨_, h2, h3⟩
    · exact .inl (cm hm)
    · rw [Heap.size_push] at h2; exact .inr ⟨h2, h3⟩
  have look : ∀ {y}, scope.names.lookup y = some .free → ∃ c, cenv.cells.lookup y = some c ∧ X.env.cells.lookup y = some c := fun {y} hl => by
    have hy : (y, NameKind.free) ∈ scope.names := PySem.mem_of_lookup hl
    obtain ⟨c', e'⟩ := mem_lookup (cells_acc (names := scope.names) (n := (s.heap.push { cls := .type "dict", data := .dict #[] }).objs.size) (cloFrom_has (cells := X.env.cells) (acc := []) hy))
    rw [← hcl] at e'
    refine ⟨c', e', ?_⟩
    rw [hcl] at e'
    rcases cells_mem (PySem.mem_of_lookup e') with hm | ⟨h1, _, _⟩
    · exact (cm hm).1
    · have := ok.uniq _ h1
      rw [hl] at this; cases this
  have okB : (X.blk s H scope cenv fp).Ok := by
    refine ⟨I.ok.mod, by show cenv.scope.kind = _; rw [hsc]; exact ok.kind, by show cenv.globals = _; rw [← hcenv]; exact I.ok.glob, by show cenv.builtins = _; rw [← hcenv]; exact I.ok.blt, by show s.heap.objs.size ≤ cenv.locals; rw [hL]; exact Nat.le_refl _,
      fun y z c e1 e2 => ?_, fun y hy => ?_, fun y c z e => ?_, I.ok.hd, I.ok.frames, .inl rfl, fun b hb => ⟨?_, fun y c e z => ?_⟩, I.bs, Nat.le_trans I.ok.bsz I.sz, fun b o e hb => ?_, fun b hb z => ?_, I.stack, I.stkFree⟩
    · have e1 : cenv.cells.lookup y = some c := e1
      have e2 : cenv.cells.lookup z = some c := e2
      rw [hcl] at e1 e2
      refine cells_inj (fun p hp => ?_) (fun y z c a b => I.ok.inj y z c (cm a).1 (cm b).1) (PySem.mem_of_lookup e1) (PySem.mem_of_lookup e2)
      rw [Heap.size_push]
      exact Nat.lt_succ_of_lt (cm (y := p.1) (c := p.2) hp).2
    · show ∃ c, cenv.cells.lookup y = some c
      have key : ∀ k, cenv.kindOf y = some k → (k = .cell ∨ k = .free) → ∃ c, cenv.cells.lookup y = some c := fun k hk hk' => by
        unfold Env.kindOf at hk
        rw [hsc] at hk
        obtain ⟨k', e, r⟩ := lookup_relS hk
        have : k' = .cell ∨ k' = .free := by
          rcases r with rfl | ⟨rfl, _⟩
          · exact hk'
          · exact .inr rfl
        rcases this with rfl | rfl
        · obtain ⟨c, hm⟩ := cells_has (n := (s.heap.push { cls := .type "dict", data := .dict #[] }).objs.size) (acc := cloFrom X.env.cells scope.names []) (PySem.mem_of_lookup e)
          obtain ⟨c', e'⟩ := mem_lookup hm
          exact ⟨c', by rw [hcl]; exact e'⟩
        · obtain ⟨c, h1, _⟩ := look e
          exact ⟨c, h1⟩
      rcases hy with hy | hy
      · exact key _ hy (.inl rfl)
      · exact key _ hy (.inr rfl)
    · have z : (scope.names.lookup y == some NameKind.cell) = true := z
      have z : scope.names.lookup y = some .cell := by simpa using z
      have e : cenv.cells.lookup y = some c := e
      rw [hcl] at e
      rcases cells_mem (PySem.mem_of_lookup e) with hm | ⟨_, h2, _⟩
      · rcases cloFrom_mem hm with hm | ⟨h1, _⟩
        · cases hm
        · have q := ok.uniq _ h1
          rw [z] at q; cases q
      · rw [Heap.size_push] at h2
        exact Nat.le_of_succ_le h2
    · show b ≠ cenv.locals
      rw [hL]; exact Nat.ne_of_lt (hfp b hb).2
    · have e : cenv.cells.lookup y = some c := e
      rcases mem e with ⟨h1, _⟩ | ⟨h1, _⟩
      · exact (hfp b hb).1.2.2.2.2.1 y c h1 z
      · have h2 : s.heap.objs.size + 1 ≤ b := by rw [← z]; exact h1
        exact absurd (Nat.lt_of_lt_of_le (hfp b hb).2 (Nat.le_of_succ_le h2)) (Nat.lt_irrefl _)
    · rcases (hfp b hb).1.2.2.2.1 with z | z
      · exact I.ok.noex b o e z
      · exact absurd (Nat.lt_of_lt_of_le (Heap.lt_size e) (Nat.le_trans I.ok.bsz z)) (Nat.lt_irrefl _)
    · rcases List.mem_cons.mp (I.stkSub b z) with z | z
      · exact (hfp b hb).1.2.1 z
      · exact (hfp b hb).1.2.2.1 z
  refine ⟨okB, rfl, I.bare, Un.kept kp, ⟨fun _ => none, ?_, fun i y av e1 e2 e3 => ?_⟩, fun y c e => ?_, ?_, fun y c e => ?_, fun p hp => ?_, I.hok.kept kp, by rw [wipe_length]; exact I.len⟩
  · show Heap.Ns _ cenv.locals _
    rw [hL]
    exact Heap.Ns.keeps (Heap.Ns.new ..) fun b o e => pushCells_keeps _ _ _ _ e
  · obtain ⟨e2, hne⟩ := wipe_some e2
    have hfr : scope.names.lookup y = some .free ∧ (cenv.kindOf y = some .cell ∨ cenv.kindOf y = some .free) := by
      have key : ∀ k, cenv.scope.names.lookup y = some k → k = .local ∨ k = .cell ∨ k = .free → scope.names.lookup y = some .free ∧ (cenv.kindOf y = some .cell ∨ cenv.kindOf y = some .free) := fun k hk hk' => by
        have hk0 := hk
        rw [hsc] at hk
        obtain ⟨k', e, r⟩ := lookup_relS hk
        have no : ¬ (k' = .local ∨ k' = .cell) := fun hh => by
          rcases ok.own _ (PySem.mem_of_lookup e) hh with e' | e'
          · obtain ⟨p, hp, hpy⟩ := List.mem_map.mp e'
            have e3 := ok.ix p hp
            have : p.1 = y := hpy
            rw [this] at e3
            exact hne (List.mem_map.mpr ⟨p, hp, nodup_ix hN e3 e1⟩)
          · exact e' (List.mem_of_getElem? e1)
        rcases r with rfl | ⟨rfl, rfl⟩
        · rcases hk' with rfl | rfl | rfl
          · exact absurd (.inl rfl) no
          · exact absurd (.inr rfl) no
          · exact ⟨e, .inr hk0⟩
        · exact ⟨e, .inl hk0⟩
      have e3 : Vis cenv.scope y := e3
      rcases e3 with e3 | e3 | e3
      · exact key _ e3 (.inl rfl)
      · exact key _ e3 (.inr (.inl rfl))
      · exact key _ e3 (.inr (.inr rfl))
    obtain ⟨m, hn, hl⟩ := I.loc
    have hvis : Vis X.env.scope y := (ok.free _ (PySem.mem_of_lookup hfr.1) rfl).elim (fun k => .inr (.inl k)) (fun k => .inr (.inr k))
    obtain ⟨w, r, q⟩ := hl i y av e1 e2 hvis
    refine ⟨w, r, .inr ⟨hfr.2, ?_⟩⟩
    obtain ⟨c, h1, h2⟩ := look hfr.1
    rcases q with ⟨k, _⟩ | ⟨_, c', e', z⟩
    · have k : X.env.scope.names.lookup y = some .local := k
      rcases ok.free _ (PySem.mem_of_lookup hfr.1) rfl with k' | k' <;> rw [show X.env.scope.names.lookup y = _ from k'] at k <;> cases k
    · rw [h2] at e'; cases e'
      exact ⟨c, h1, z.keeps kp⟩
  · have e : cenv.cells.lookup y = some c := e
    rcases mem e with ⟨h1, _⟩ | ⟨_, z⟩
    · obtain ⟨w, z⟩ := I.cell y c h1
      exact ⟨w, z.keeps kp⟩
    · exact ⟨_, z⟩
  · show H cenv.locals = none
    rw [hL]; exact I.hok.fresh (Nat.le_refl _)
  · have e : cenv.cells.lookup y = some c := e
    rcases mem e with ⟨h1, _⟩ | ⟨h1, _⟩
    · exact I.freeC y c h1
    · exact I.hok.fresh (Nat.le_of_succ_le h1)
  · exact absurd (show p ∈ ([] : List (Addr × Obj)) ++ [] from hp) (by simp)
/-- an item appended to a tracked list -/
theorem app_ok {E : Value → Shared → Prop} {D : Addr} {xs : List V} {y : V} {v : Value} {Q : Value → Shared → Prop} (I : Inv X pins σ H s) (hD : H D = some (.lst xs)) (hz : xs.length < sizeLine) (r : RelV y v)
    (h : ∀ s', Inv X pins σ (upd H D (.lst (xs ++ [y]))) s' → Q .none s') : wpAny (model X.prog X.w) X.A (call (.builtin "list.append") [.ref D, v]) Q E s := by
  obtain ⟨hz', its, n, ri, e⟩ := I.hok D _ hD
  have hl := ri.length
  refine append_at (hsz := by rw [List.size_toArray]; omega) e fun h' sb ho' => ?_
  refine h { s with heap := h' } (I.write (t' := s.toks) (by rw [hD]; trivial) (.inl rfl) (fun b u hb q => (sb.2 b hb).trans q) ⟨_, ho'⟩ ⟨by rw [List.length_append]; exact hz, its ++ [v], n + 1, ri.append (.cons r .nil), ?_⟩)
  rw [ho']
  simp
/-- a clause's tests -/
def PTs (X : Cx) (ifs : List Expr) (t : TT) : Prop :=
  ∀ (pins : List (Addr × Obj)) (s : Shared) (σ : St) (H : Hp) (Q : Bool → Hp → Prop), Inv X pins σ H s → t σ H Q →
    wpAny (model X.prog X.w) X.A (forIn ifs true fun c r => if r = true then do let ok ← isTrue c X.env (eval c X.env); pure (ForInStep.yield ok) else pure (ForInStep.yield r)) (TP X pins σ Q) X.xe s
def tYes : TT := fun _ H Q => Q true H
theorem pts_nil : PTs X [] tYes := fun _ _ _ H _ I h => wpAny_tests_nil ⟨H, I, h⟩
theorem pts_one {c : Expr} {t : TT} (h : PT X c t) : PTs X [c] t := fun pins s σ H Q I hw => wpAny_tests_one (h pins s σ H Q I hw)
end
theorem thnF {α : Type} {t : Sem α} {Q Q' : α → Shared → Prop} {M : Model} {A : Around} {E : Value → Shared → Prop} {s : Shared} (h : wpAny M A t Q (fun _ _ => False) s) (hQ : ∀ a s, Q a s → Q' a s) : wpAny M A t Q' E s := wpAny_mono h hQ fun _ _ z => False.elim z
/-- the loop of a list comprehension's block, the target of any form (codeAny_compLoop_tests asks a target that no tuple goes to; statement and proof follow it, PyProof/CompMap.lean:41-61, with the step letOwnedTupleGo kept) -/
theorem compLoop_any {prog : Program} {w : World} {A : Around} {R : Result → Shared → Prop} {s : Shared} {elt target iter : Expr} {ifs : List Expr} {scope : Scope} {pos : Pos} {it acc : Value} {env : Env} (I : Nat → Shared → Prop)
    (turn : ∀ n s, I n s → wpAny (model prog w) A (pyNext it) (fun r s₁ => match r with
      | none => R (.ok .next) s₁
      | some v => wpAny (model prog w) A (letOwnedTupleGo target it v) (fun _ s₁' => wpAny (model prog w) A (assign target env v) (fun _ s₂ =>
          wpAny (model prog w) A (forIn ifs true fun c r => if r = true then do let ok ← isTrue c env (eval c env); pure (ForInStep.yield ok) else pure (ForInStep.yield r)) (fun ok s₃ =>
            if ok = true then wpAny (model prog w) A (eval elt env) (fun x s₄ =>
              wpAny (model prog w) A (call (.builtin "list.append") [acc, x]) (fun _ s₅ => ∃ m, m < n ∧ I m s₅) (notedBy (model prog w) A env fun e s' => R (.error e) s') s₄) (notedBy (model prog w) A env fun e s' => R (.error e) s') s₃
            else ∃ m, m < n ∧ I m s₃) (notedBy (model prog w) A env fun e s' => R (.error e) s') s₂) (notedBy (model prog w) A env fun e s' => R (.error e) s') s₁') (notedBy (model prog w) A env fun e s' => R (.error e) s') s₁) (notedBy (model prog w) A env fun e s' => R (.error e) s') s)
    (n : Nat) (h : I n s) :
    codeAny (model prog w) A (.compLoop (.ListComp elt [⟨target, iter, ifs, 0⟩] scope pos) 0 it acc env) R s := by
  refine codeAny_loop rfl I (fun n s hI => ?_) n h
  show wpAny _ A ((compTurn (.ListComp elt [⟨target, iter, ifs, 0⟩] scope pos) 0 it acc env).onRaise (fun x => do noteFrame x env; theTreesLotGoes x)) _ _ s
  refine wpAny_noted ?_
  rw [compTurn_list]
  refine wpAny_bind (wpAny_standAt (wpAny_bind (wpAny_mono (turn n s hI) (fun r s₁ h₁ => ?_) fun _ _ h' => h')))
  cases r with
  | none => exact wpAny_pure h₁
  | some v =>
    refine wpAny_bind (wpAny_mono h₁ (fun _ s₁' h₁' => ?_) fun _ _ h' => h')
    refine wpAny_bind (wpAny_mono h₁' (fun _ s₂ h₂ => wpAny_bind (wpAny_mono h₂ (fun ok s₃ h₃ => ?_) fun _ _ h' => h')) fun _ _ h' => h')
    cases ok with
    | false => exact wpAny_pure ⟨rfl, h₃⟩
    | true =>
      exact wpAny_bind (wpAny_bind (wpAny_mono h₃ (fun x s₄ h₄ => wpAny_bind (wpAny_mono h₄ (fun _ s₅ h₅ => wpAny_pure (wpAny_pure ⟨rfl, h₅⟩)) fun _ _ h' => h')) fun _ _ h' => h'))
section
variable {X : Cx}
/-- [elt for target in iter if ..]: D the new list; W by the turn and a measure, Nx what a turn is to reach -/
def tLc (wi : TI) (g : TG) (tt : TT) (te : TE) (vs : List Nat) : TE := fun σ H Q => wi σ H fun J H1 => ∀ D, H1 D = none → ∃ W : Nat → Nat → Hp → Prop, (∃ m, W 0 m (upd H1 D (.lst []))) ∧ ∀ i m H, W i m H →
  (J.stop i H ∧ Q (.ref D) H) ∨ (J.go i H ∧ ∃ Nx : Hp → Prop, (∀ H', Nx H' → ∃ m', m' < m ∧ W (i + 1) m' H') ∧ ∀ x H', J.yld i H x H' → g x (wipe σ vs) H' fun σ2 H2 => wipe σ2 vs = wipe σ vs ∧ tt σ2 H2 fun b H3 =>
    if b = true then te σ2 H3 fun y H4 => ∃ acc, H4 D = some (.lst acc) ∧ acc.length < sizeLine ∧ Nx (upd H4 D (.lst (acc ++ [y]))) else Nx H3)
theorem lc_core {pins : List (Addr × Obj)} {s : Shared} {σ : St} {H : Hp} {Q : VK} {elt tg iter : Expr} {ifs : List Expr} {scope : Scope} {own : List (Str × Nat)} {pos pos' : Pos} {wi : TI} {g : TG} {tt : TT} {te : TE} {use : Option (Value → Sem Unit)} {Qf : Value → Shared → Prop}
    (hc : X.calm = true) (hN : X.N.Nodup) (I : Inv X pins σ H s) (hi : PI X tg iter wi) (ok : BlkOk X.N X.env.scope scope own)
    (hg : ∀ (s : Shared) (H : Hp) (C : Addr) (cl : List (Str × Addr)) (fp : List Addr), PG (X.blk s H scope (compEnvC scope cl C X.env) fp) tg g) (ht : ∀ (s : Shared) (H : Hp) (C : Addr) (cl : List (Str × Addr)) (fp : List Addr), PTs (X.blk s H scope (compEnvC scope cl C X.env) fp) ifs tt)
    (he : ∀ (s : Shared) (H : Hp) (C : Addr) (cl : List (Str × Addr)) (fp : List Addr), PE (X.blk s H scope (compEnvC scope cl C X.env) fp) elt te) (hs : ∀ x, foldedSetIterable iter X.env x = pure x)
    (h : tLc wi g tt te (own.map (·.2)) σ H Q)
    (hRR : ∀ D C s' m H', Inv X pins σ H' s' → Q (.ref D) H' → s'.heap.Ns C m → FpOk X pins H' C → compPost (model X.prog X.w) X.A X.xe use Qf (.ref D) C (.ok .next) s') :
    wpAny (model X.prog X.w) X.A (comprehension (.ListComp elt [⟨tg, iter, ifs, 0⟩] scope pos) scope X.env pos' (newList []) false (eval iter X.env) use) Qf X.xe s := by
  have hfree : ∀ y ∈ scope.names, y.2 = .free → ∃ c, X.env.cells.lookup y.1 = some c := fun y hy e => by
    rcases ok.free y hy e with k | k
    · exact I.ok.has _ (.inl k)
    · exact I.ok.has _ (.inr k)
  refine wpAny_comprehension_free (use := use) rfl hs (closure_ok hfree) ok.kind (fun y hy e => by rw [ok.uniq y hy, e])
    (thn (hi pins s σ H _ I h) fun xv s1 hx => thn hx fun itv s2 h2 => ?_)
  obtain ⟨it, fp, tn, J, H2, e, I2, T, st2, f2, q⟩ := h2
  subst e
  refine wpAny_newObj_type (newEnv_comp ?_) (by show 0 ≤ sizeLine; decide)
  generalize hD : s2.heap.objs.size = D
  have hDn : H2 D = none := I2.hok.fresh (Nat.le_of_eq hD)
  obtain ⟨W, ⟨m0, w0⟩, turn⟩ := q D hDn
  -- the new list
  generalize hs3 : ({ s2 with heap := s2.heap.push { cls := .type "list", data := .seq ([] : List Value).toArray } } : Shared) = s3
  have I3 : Inv X pins σ (upd H2 D (.lst [])) s3 := by
    rw [← hs3]
    refine I2.laid (t' := s2.toks) (fun b o e => Heap.get?_push_of_some _ e) (Nat.le_of_eq hD) ⟨Nat.zero_le _, [], 0, .nil, ?_⟩
    rw [← hD]
    exact Heap.get?_push_size _ rfl
  have h3 : s3.heap = s2.heap.push { cls := .type "list", data := .seq ([] : List Value).toArray } := by rw [← hs3]
  have sz : ∀ b ∈ fp, b < s2.heap.objs.size := fun b hb => by
    obtain ⟨o, e, _⟩ := T.obj _ _ st2 b hb
    exact Heap.lt_size e
  have f3 : ∀ b ∈ fp, FpOk X pins (upd H2 D (.lst [])) b ∧ b < s3.heap.objs.size := fun b hb => by
    have hlt := sz b hb
    refine ⟨⟨?_, (f2 b hb).2⟩, by rw [h3, Heap.size_push]; exact Nat.lt_succ_of_lt hlt⟩
    rw [upd_ne (by rw [← hD]; exact Nat.ne_of_lt hlt)]
    exact (f2 b hb).1
  have st3 : tn 0 s3.heap := T.keep _ _ _ st2 fun b _ o e => by rw [h3]; exact Heap.get?_push_of_some _ e
  have I4 := block_start I3 ok hN f3
  have pg := hg s3 (upd H2 D (.lst [])) s3.heap.objs.size (cellsFrom (s3.heap.objs.size + 1) scope.names (cloFrom X.env.cells scope.names [])) fp
  have pt := ht s3 (upd H2 D (.lst [])) s3.heap.objs.size (cellsFrom (s3.heap.objs.size + 1) scope.names (cloFrom X.env.cells scope.names [])) fp
  have pe := he s3 (upd H2 D (.lst [])) s3.heap.objs.size (cellsFrom (s3.heap.objs.size + 1) scope.names (cloFrom X.env.cells scope.names [])) fp
  show codeAny _ _ (.compStart (.ListComp elt [⟨tg, iter, ifs, 0⟩] scope pos) 0 (.ref it) (.ref D) (compEnvC scope (cellsFrom (s3.heap.objs.size + 1) scope.names (cloFrom X.env.cells scope.names [])) s3.heap.objs.size X.env)) (compPost (model X.prog X.w) X.A X.xe use Qf (.ref D) s3.heap.objs.size) { s3 with heap := pushCells (s3.heap.push { cls := .type "dict", data := .dict #[] }) scope.names }
  have nfp : ∀ b ∈ fp, (upd H2 D (.lst [])) b = none := fun b hb => (f3 b hb).1.1
  generalize hce : compEnvC scope (cellsFrom (s3.heap.objs.size + 1) scope.names (cloFrom X.env.cells scope.names [])) s3.heap.objs.size X.env = ce at I4 pg pt pe ⊢
  have cL : ce.locals = s3.heap.objs.size := by subst hce; rfl
  generalize hH3 : upd H2 D (.lst []) = H3 at I3 I4 pg pt pe w0 nfp f3
  generalize hs4 : ({ s3 with heap := pushCells (s3.heap.push { cls := .type "dict", data := .dict #[] }) scope.names } : Shared) = s4 at I4 ⊢
  have st4 : tn 0 s4.heap := T.keep _ _ _ st3 fun b _ o e => by rw [← hs4]; exact pushCells_keeps _ _ _ _ (Heap.get?_push_of_some _ e)
  have stat : ∀ {σ' : St} {H' : Hp} {s' : Shared}, Inv (X.blk s3 H3 scope ce fp) [] σ' H' s' → (∀ b ∈ fp, H' b = none) → ∀ b ∈ fp, FpOk (X.blk s3 H3 scope ce fp) [] H' b := fun {σ' H' s'} I' hn b hb =>
    ⟨hn b hb, (I'.ok.exf b hb).1, I'.ok.exfs b hb, .inl hb, fun x c e => (I'.ok.exf b hb).2 x c e, fun p hp => absurd (show p ∈ ([] : List (Addr × Obj)) ++ [] from hp) (by simp)⟩
  have loop : codeAny (model X.prog X.w) X.A (.compLoop (.ListComp elt [⟨tg, iter, ifs, 0⟩] scope pos) 0 (.ref it) (.ref D) ce) (compPost (model X.prog X.w) X.A X.xe use Qf (.ref D) s3.heap.objs.size) s4 := by
    refine compLoop_any (fun n s' => ∃ i H', Inv (X.blk s3 H3 scope ce fp) [] (wipe σ (own.map (·.2))) H' s' ∧ tn i s'.heap ∧ (∀ b ∈ fp, H' b = none) ∧ W i n H') ?_ m0 ⟨0, H3, I4, st4, nfp, w0⟩
    rintro n s5 ⟨i, H5, I5, st5, n5, w5⟩
    rcases turn i n H5 w5 with ⟨stop, qq⟩ | ⟨go, Nx, hNx, step⟩
    · have td := T.done (X.blk s3 H3 scope ce fp) rfl rfl rfl hc i [] s5 _ H5 (fun _ _ => False) I5 (stat I5 n5) st5 stop
      refine thnF td fun r s6 ⟨hr, I6⟩ => ?_
      subst hr
      -- back in the def's context
      have I7 : Inv X pins σ H5 s6 := I3.call' (ch := fp) I6.os I6.base I6.hok I6.bare fun b hb => ⟨(f3 b hb).1.2.2.2.1, (f3 b hb).1.2.1, (f3 b hb).1.2.2.2.2.1, (f3 b hb).1.2.2.2.2.2⟩
      have nC : H5 s3.heap.objs.size = none := by
        have z : H5 ce.locals = none := I6.free
        rw [cL] at z
        exact z
      obtain ⟨m, hn, _⟩ := I6.loc
      have hn : s6.heap.Ns ce.locals m := hn
      rw [cL] at hn
      exact hRR D s3.heap.objs.size s6 m H5 I7 qq hn (I3.fpOk (Nat.le_refl _) nC)
    · have ti := T.item (X.blk s3 H3 scope ce fp) rfl rfl rfl hc i [] s5 _ H5 (fun _ _ => False) I5 (stat I5 n5) st5 go
      refine thnF ti fun r s6 ⟨u, hr, h6⟩ => ?_
      subst hr
      refine thnF h6 fun _ s7 ⟨x, H7, I7, r7, y7, st7, n7⟩ => ?_
      have I7' := I7.pinned (stat I7 n7) (T.obj _ _ st7)
      refine thnF (pg _ s7 _ H7 x u _ I7' r7 (step x H7 y7)) fun _ s8 ⟨σ8, H8, I8, hw8, q8⟩ => ?_
      refine thnF (pt _ s8 σ8 H8 _ I8 q8) fun b s9 ⟨H9, I9, q9⟩ => ?_
      -- the turn's end
      have fin : ∀ {s' : Shared} {H' : Hp}, Inv (X.blk s3 H3 scope ce fp) ([] ++ pinsAt fp s7.heap) σ8 H' s' → Nx H' → ∃ m, m < n ∧ ∃ i H', Inv (X.blk s3 H3 scope ce fp) [] (wipe σ (own.map (·.2))) H' s' ∧ tn i s'.heap ∧ (∀ b ∈ fp, H' b = none) ∧ W i m H' := fun {s' H'} I' nx => by
        obtain ⟨m', hm, w'⟩ := hNx H' nx
        have pin' : ∀ b ∈ fp, ∀ o, s7.heap.get? b = some o → s'.heap.get? b = some o ∧ H' b = none := fun b hb o e =>
          let z := I'.pin (b, o) (List.mem_append_right _ (List.mem_append_right _ (mem_pinsAt hb e)))
          ⟨z.1, z.2.1⟩
        have hl : (wipe σ (own.map (·.2))).length = σ8.length := by rw [← hw8, wipe_length]
        refine ⟨m', hm, i + 1, H', (I'.unpinned (pins := [])).weak hl (fun j v e => ?_), T.keep _ _ _ st7 fun b hb o e => (pin' b hb o e).1, fun b hb => ?_, w'⟩
        · rw [← hw8] at e
          exact (wipe_some e).1
        · obtain ⟨o, e, _⟩ := T.obj _ _ st7 b hb
          exact (pin' b hb o e).2
      cases b with
      | false =>
        simp only [Bool.false_eq_true, if_false] at q9 ⊢
        exact fin I9 q9
      | true =>
        simp only [if_true] at q9 ⊢
        refine thnF (pe _ s9 σ8 H9 _ I9 q9) fun z s10 ⟨yv, H10, I10, r10, acc, hD10, hz10, nx⟩ => ?_
        exact app_ok (X := X.blk s3 H3 scope ce fp) I10 hD10 hz10 r10 fun s11 I11 => fin I11 nx
  exact codeAny_compStart_list loop (T.self X.A 0 _ _ _ st4 loop)
/-- as a value -/
theorem pe_lc {elt tg iter : Expr} {ifs : List Expr} {scope : Scope} {own : List (Str × Nat)} {pos : Pos} {wi : TI} {g : TG} {tt : TT} {te : TE} (hc : X.calm = true) (hN : X.N.Nodup) (hi : PI X tg iter wi) (ok : BlkOk X.N X.env.scope scope own)
    (hg : ∀ (s : Shared) (H : Hp) (C : Addr) (cl : List (Str × Addr)) (fp : List Addr), PG (X.blk s H scope (compEnvC scope cl C X.env) fp) tg g) (ht : ∀ (s : Shared) (H : Hp) (C : Addr) (cl : List (Str × Addr)) (fp : List Addr), PTs (X.blk s H scope (compEnvC scope cl C X.env) fp) ifs tt)
    (he : ∀ (s : Shared) (H : Hp) (C : Addr) (cl : List (Str × Addr)) (fp : List Addr), PE (X.blk s H scope (compEnvC scope cl C X.env) fp) elt te) (hs : ∀ x, foldedSetIterable iter X.env x = pure x := by intro _; rfl) :
    PE X (.ListComp elt [⟨tg, iter, ifs, 0⟩] scope pos) (tLc wi g tt te (own.map (·.2))) := by
  intro pins s σ H Q I h
  rw [eval_ListComp]
  refine lc_core hc hN I hi ok hg ht he hs h fun D C s' m H' I' q hn f => ⟨m, hn, fun h'' sb => ?_⟩
  obtain ⟨f0, f1, f2, f3, f4, f5⟩ := f
  exact ⟨.ref D, H', I'.turned (t' := s'.toks) (fun b o hb e => (sb.2 b hb).trans e) f0 f1 f3 f4 f5, rfl, q⟩
/-- name = [..] on one line, the name a local -/
theorem ps_setLc {i : Nat} {y : Str} {py : Pos} {elt tg iter : Expr} {ifs : List Expr} {scope : Scope} {own : List (Str × Nat)} {pos spos : Pos} {wi : TI} {g : TG} {tt : TT} {te : TE} (hc : X.calm = true) (hN : X.N.Nodup) (hy : X.N[i]? = some y) (hyl : X.env.scope.names.lookup y = some .local)
    (hsw : swapsWith (.ListComp elt [⟨tg, iter, ifs, 0⟩] scope pos) (some (.Name y py)) spos.line X.env = pure true) (hi : PI X tg iter wi) (ok : BlkOk X.N X.env.scope scope own)
    (hg : ∀ (s : Shared) (H : Hp) (C : Addr) (cl : List (Str × Addr)) (fp : List Addr), PG (X.blk s H scope (compEnvC scope cl C X.env) fp) tg g) (ht : ∀ (s : Shared) (H : Hp) (C : Addr) (cl : List (Str × Addr)) (fp : List Addr), PTs (X.blk s H scope (compEnvC scope cl C X.env) fp) ifs tt)
    (he : ∀ (s : Shared) (H : Hp) (C : Addr) (cl : List (Str × Addr)) (fp : List Addr), PE (X.blk s H scope (compEnvC scope cl C X.env) fp) elt te) (hs : ∀ x, foldedSetIterable iter X.env x = pure x := by intro _; rfl) :
    PS X (.Assign [.Name y py] (.ListComp elt [⟨tg, iter, ifs, 0⟩] scope pos) spos) (tAsg (tLc wi g tt te (own.map (·.2))) (gName i)) := by
  intro pins s σ H D I h
  rw [exec_Assign_Name_used _ _ _ _ hsw]
  refine wpAny_bind (wpAny_standAt (wpAny_bind ?_))
  show wpAny _ X.A (do let _ ← comprehension (.ListComp elt [⟨tg, iter, ifs, 0⟩] scope pos) scope X.env (firstIterPos [⟨tg, iter, ifs, 0⟩] pos) (newList []) false (eval iter X.env) (some (assign (.Name y py) X.env))) _ _ s
  have h : tLc wi g tt te (own.map (·.2)) σ H (fun x H1 => gName i x σ H1 D.nx) := h
  refine wpAny_bind (thn (lc_core (Qf := fun _ s' => SP X pins D .next s') hc hN I hi ok hg ht he hs h fun L C s' m H' I' q hn f => ?_) fun _ s' hq => wpAny_pure (wpAny_pure hq))
  show wpAny _ _ (assign (.Name y py) X.env (.ref L)) _ _ _
  refine wpAny_assign_Name (store_ok2 (v := V.ref L) I' hN hy (.inl hyl) rfl (fun s2 I2 ⟨a, sb, ha⟩ => ?_) (.inr hyl))
  obtain ⟨f0, f1, f2, f3, f4, f5⟩ := f
  have haC : C ≠ a := by
    rcases ha with z | z
    · rw [z]; exact f1
    · exact fun e => f4 y a z e.symm
  refine ⟨m, hn.sameBut sb haC, fun h3 sb3 => ?_⟩
  exact ⟨_, H', I2.turned (t' := s2.toks) (fun b o hb e => (sb3.2 b hb).trans e) f0 f1 f3 f4 f5, q⟩
theorem sw_true {elt : Expr} {gs : List Comprehension} {scope : Scope} {pos py : Pos} {y : Str} {l : Nat} {env : Env} (hk : env.scope.kind = .function) (hy : env.scope.names.lookup y = some .local) (hl : (py.line == pos.line) = true)
    (ha : (scope.names.any fun (n, k) => n == y && (k == .local || k == .cell)) = false) : swapsWith (.ListComp elt gs scope pos) (some (.Name y py)) l env = pure true := by
  have ky : env.kindOf y = some .local := hy
  have hb : env.blockKind = .function := by unfold Env.blockKind; rw [hk]; rfl
  unfold swapsWith
  simp only [hb, ky, ha, Expr.pos, hl]
  rfl
end
/-! ### the forms one uses -/
/-- over a range: Pv by the turn and the heap (the new list at D within) -/
theorem lc_range {lo : Int} {n : Nat} {g : TG} {tt : TT} {te : TE} {vs : List Nat} {σ : St} {H1 : Hp} {D : Addr} {Qd : Hp → Prop} (Pv : Nat → Hp → Prop) (h0 : Pv 0 (upd H1 D (.lst [])))
    (hs : ∀ i H, i < n → Pv i H → g (.int (lo + i)) (wipe σ vs) H fun σ2 H2 => wipe σ2 vs = wipe σ vs ∧ tt σ2 H2 fun b H3 =>
      if b = true then te σ2 H3 fun y H4 => ∃ acc, H4 D = some (.lst acc) ∧ acc.length < sizeLine ∧ Pv (i + 1) (upd H4 D (.lst (acc ++ [y]))) else Pv (i + 1) H3) (hd : ∀ H, Pv n H → Qd H) :
    ∃ W : Nat → Nat → Hp → Prop, (∃ m, W 0 m (upd H1 D (.lst []))) ∧ ∀ i m H, W i m H →
      ((Itr lo n).stop i H ∧ Qd H) ∨ ((Itr lo n).go i H ∧ ∃ Nx : Hp → Prop, (∀ H', Nx H' → ∃ m', m' < m ∧ W (i + 1) m' H') ∧ ∀ x H', (Itr lo n).yld i H x H' → g x (wipe σ vs) H' fun σ2 H2 => wipe σ2 vs = wipe σ vs ∧ tt σ2 H2 fun b H3 =>
        if b = true then te σ2 H3 fun y H4 => ∃ acc, H4 D = some (.lst acc) ∧ acc.length < sizeLine ∧ Nx (upd H4 D (.lst (acc ++ [y]))) else Nx H3) := by
  refine ⟨fun i m H => m = n - i ∧ i ≤ n ∧ Pv i H, ⟨n, by simp, Nat.zero_le _, h0⟩, ?_⟩
  rintro i m H ⟨rfl, hi, p⟩
  by_cases hlt : i < n
  · refine .inr ⟨hlt, Pv (i + 1), fun H' p' => ⟨n - (i + 1), by omega, rfl, hlt, p'⟩, fun x H' y => ?_⟩
    obtain ⟨e, y⟩ := y
    subst e y
    exact hs i _ hlt p
  · have e : i = n := by omega
    subst e
    exact .inl ⟨Nat.le_refl _, hd H p⟩
/-- over a list that the block leaves as it is -/
theorem lc_list {K : PySem.W.Frag} {a : Addr} {xs : List V} {g : TG} {tt : TT} {te : TE} {vs : List Nat} {σ : St} {H1 : Hp} {D : Addr} {Qd : Hp → Prop} (Pv : Nat → Hp → Prop) (h0 : Pv 0 (upd H1 D (.lst []))) (hl : ∀ i H, i ≤ xs.length → Pv i H → SqL K H a xs)
    (hs : ∀ i x H, xs[i]? = some x → Pv i H → g x (wipe σ vs) H fun σ2 H2 => wipe σ2 vs = wipe σ vs ∧ tt σ2 H2 fun b H3 =>
      if b = true then te σ2 H3 fun y H4 => ∃ acc, H4 D = some (.lst acc) ∧ acc.length < sizeLine ∧ Pv (i + 1) (upd H4 D (.lst (acc ++ [y]))) else Pv (i + 1) H3) (hd : ∀ H, Pv xs.length H → Qd H) :
    ∃ W : Nat → Nat → Hp → Prop, (∃ m, W 0 m (upd H1 D (.lst []))) ∧ ∀ i m H, W i m H →
      ((Itl K a).stop i H ∧ Qd H) ∨ ((Itl K a).go i H ∧ ∃ Nx : Hp → Prop, (∀ H', Nx H' → ∃ m', m' < m ∧ W (i + 1) m' H') ∧ ∀ x H', (Itl K a).yld i H x H' → g x (wipe σ vs) H' fun σ2 H2 => wipe σ2 vs = wipe σ vs ∧ tt σ2 H2 fun b H3 =>
        if b = true then te σ2 H3 fun y H4 => ∃ acc, H4 D = some (.lst acc) ∧ acc.length < sizeLine ∧ Nx (upd H4 D (.lst (acc ++ [y]))) else Nx H3) := by
  refine ⟨fun i m H => m = xs.length - i ∧ i ≤ xs.length ∧ Pv i H, ⟨xs.length, by simp, Nat.zero_le _, h0⟩, ?_⟩
  rintro i m H ⟨rfl, hi, p⟩
  have q := hl i H hi p
  by_cases hlt : i < xs.length
  · refine .inr ⟨⟨xs, xs[i], q, by simp [hlt]⟩, Pv (i + 1), fun H' p' => ⟨xs.length - (i + 1), by omega, rfl, hlt, p'⟩, fun x H' y => ?_⟩
    obtain ⟨e, y⟩ := y
    subst e
    exact hs i x _ (y xs q) p
  · have e : i = xs.length := by omega
    subst e
    exact .inl ⟨⟨xs, q, Nat.le_refl _⟩, hd H p⟩
def blkC (N : List Str) (sc scope : Scope) (own : List (Str × Nat)) : Bool :=
  (match scope.kind with | .function => true | _ => false) && (scope.names.all fun y => decide (scope.names.lookup y.1 = some y.2)) && (own.all fun p => decide (N[p.2]? = some p.1)) &&
    (scope.names.all fun y => match y.2 with
      | .free => (match sc.names.lookup y.1 with | some .cell => true | some .free => true | _ => false)
      | .local => decide (y.1 ∈ own.map (·.1)) || decide (y.1 ∉ N)
      | .cell => decide (y.1 ∈ own.map (·.1)) || decide (y.1 ∉ N)
      | _ => true)
theorem blkOk_by {N : List Str} {sc scope : Scope} {own : List (Str × Nat)} (h : blkC N sc scope own = true) : BlkOk N sc scope own := by
  unfold blkC at h
  simp only [Bool.and_eq_true, List.all_eq_true, decide_eq_true_eq] at h
  obtain ⟨⟨⟨h1, h2⟩, h3⟩, h4⟩ := h
  refine ⟨?_, h2, h3, fun y hy e => ?_, fun y hy e => ?_⟩
  · split at h1
    · assumption
    · cases h1
  · have q := h4 y hy
    simp only [e] at q
    split at q <;> first | exact .inl (by assumption) | exact .inr (by assumption) | cases q
  · have q := h4 y hy
    rcases e with e | e <;> (simp only [e, Bool.or_eq_true, decide_eq_true_eq] at q; exact q)
end L2
namespace L2
open PySem PySem.Spec PyProof.Rows
section
variable {prog : Program} {w : World} {A : Around} {R : Result → Shared → Prop} {s : Shared} {elt t0 i0 t1 i1 : Expr} {ifs0 ifs1 : List Expr} {scope : Scope} {pos : Pos} {it acc : Value} {env : Env}
end
section
variable {X : Cx}
end
end L2
namespace L2
open PySem PySem.Spec PyProof.Rows
/-! ### lists of pairs as tables -/
section
variable {κ : Type} [DecidableEq κ]
def valV (kvs : List (κ × V)) (k : κ) : Option V := (kvs.find? fun kv => decide (kv.1 = k)).map (·.2)
/-- in its place, or at the end -/
def putK (kvs : List (κ × V)) (k : κ) (v : V) : List (κ × V) :=
  if (kvs.any fun kv => decide (kv.1 = k)) = true then kvs.map (fun kv => if kv.1 = k then (kv.1, v) else kv) else kvs ++ [(k, v)]
theorem valV_pos {p : κ × V} {r : List (κ × V)} {k : κ} (e : p.1 = k) : valV (p :: r) k = some p.2 := by simp [valV, List.find?_cons, e]
theorem valV_neg {p : κ × V} {r : List (κ × V)} {k : κ} (e : ¬ p.1 = k) : valV (p :: r) k = valV r k := by simp [valV, List.find?_cons, e]
theorem valV_any (k : κ) : ∀ kvs : List (κ × V), (kvs.any fun kv => decide (kv.1 = k)) = (valV kvs k).isSome
  | [] => rfl
  | p :: r => by
    rw [List.any_cons]
    by_cases e : p.1 = k
    · simp only [valV_pos e, decide_eq_true e, Bool.true_or, Option.isSome_some]
    · rw [valV_neg e, decide_eq_false e, Bool.false_or]; exact valV_any k r
theorem length_putK (kvs : List (κ × V)) (k : κ) (v : V) : (putK kvs k v).length ≤ kvs.length + 1 := by
  unfold putK
  split
  · rw [List.length_map]; omega
  · rw [List.length_append, List.length_cons, List.length_nil]; omega
theorem putK_new {kvs : List (κ × V)} {k : κ} (v : V) (h : valV kvs k = none) : putK kvs k v = kvs ++ [(k, v)] := by
  unfold putK
  rw [valV_any, h]
  exact if_neg (by decide)
theorem RelO.isSome_eq {o : Option V} {u : Option Value} (r : RelO o u) : o.isSome = u.isSome := by
  cases o with
  | none => cases u with
    | none => rfl
    | some _ => exact (show False from r).elim
  | some _ => cases u with
    | none => exact (show False from r).elim
    | some _ => rfl
/-- raw tables of the same keys -/
theorem KV.val {kvs : List (κ × V)} {vs : List (κ × Value)} (r : KV kvs vs) (k : κ) : RelO (valV kvs k) (valueAt vs k) := by
  unfold KV at r
  induction r with
  | nil => exact True.intro
  | @cons p q ps qs h t ih =>
    obtain ⟨h1, h2⟩ := h
    by_cases e : p.1 = k
    · have e' : q.1 = k := h1.symm.trans e
      have b : valueAt (q :: qs) k = some q.2 := by simp [valueAt, List.find?_cons, e']
      rw [valV_pos e, b]; exact h2
    · have e' : ¬ q.1 = k := fun z => e (h1.trans z)
      have b : valueAt (q :: qs) k = valueAt qs k := by simp [valueAt, List.find?_cons, e']
      rw [valV_neg e, b]; exact ih
theorem KV.any {kvs : List (κ × V)} {vs : List (κ × Value)} (r : KV kvs vs) (k : κ) : (kvs.any fun kv => decide (kv.1 = k)) = vs.any fun kv => decide (kv.1 = k) := by
  unfold KV at r
  induction r with
  | nil => rfl
  | cons h t ih => rw [List.any_cons, List.any_cons, ih, h.1]
theorem KV.repl {kvs : List (κ × V)} {vs : List (κ × Value)} (r : KV kvs vs) (k : κ) {y : V} {u : Value} (ry : RelV y u) :
    KV (kvs.map fun kv => if kv.1 = k then (kv.1, y) else kv) (vs.map fun kv => if kv.1 = k then (kv.1, u) else kv) := by
  unfold KV at r ⊢
  induction r with
  | nil => exact .nil
  | @cons p q ps qs h t ih =>
    rw [List.map_cons, List.map_cons]
    refine .cons ?_ ih
    obtain ⟨h1, h2⟩ := h
    by_cases e : p.1 = k
    · rw [if_pos e, if_pos (h1.symm.trans e)]; exact ⟨h1, ry⟩
    · rw [if_neg e, if_neg (fun z => e (h1.trans z))]; exact ⟨h1, h2⟩
theorem KV.put {kvs : List (κ × V)} {vs : List (κ × Value)} (r : KV kvs vs) (k : κ) {y : V} {u : Value} (ry : RelV y u) : KV (putK kvs k y) (stored vs k u) := by
  unfold putK stored
  rw [r.any k]
  by_cases e : (vs.any fun kv => decide (kv.1 = k)) = true
  · rw [if_pos e, if_pos e]; exact r.repl k ry
  · rw [if_neg e, if_neg e]; exact Paired.snoc r ⟨rfl, ry⟩
theorem KV.length {kvs : List (κ × V)} {vs : List (κ × Value)} (r : KV kvs vs) : kvs.length = vs.length := Paired.length r
end
/-! ### a tracked dict, its keys ints and texts or tuples of these -/
theorem kV_is {P : Program} {w : World} {k : Key} {u : Value} (r : RelV (kV k) u) : (mixKind P w).is k u = true := by
  cases k with
  | inl i => obtain ⟨t, e⟩ := (show ∃ t, u = Value.int i t from r); subst e; exact mixKind_int P w i t
  | inr x => obtain ⟨t, e⟩ := (show ∃ t, u = Value.str x t from r); subst e; exact mixKind_str P w x t
theorem items_are {P : Program} {w : World} : ∀ {ks : List Key} {us : List Value}, Vals (ks.map kV) us → ItemsAre (mixKind P w) ks us
  | [], _, r => by rw [List.map_nil] at r; cases r; exact .nil
  | k :: ks, _, r => by
    rw [List.map_cons] at r
    cases r with
    | cons h t => exact .cons (kV_is h) (items_are t)
/-- raw entries of a dict with tuple keys -/
abbrev KT (H : Hp) : List (List Key × V) → List (List Key × Addr × Value) → Prop := Paired fun p q => p.1 = q.1 ∧ H q.2.1 = some (.tup (p.1.map kV)) ∧ RelV p.2 q.2.2
theorem KT.val {H : Hp} {kvs : List (List Key × V)} {xs : List (List Key × Addr × Value)} (r : KT H kvs xs) (k : List Key) : RelO (valV kvs k) ((atKey xs k).map (·.2)) := by
  induction r with
  | nil => exact True.intro
  | @cons p q ps qs h t ih =>
    obtain ⟨h1, _, h2⟩ := h
    by_cases e : p.1 = k
    · have e' : q.1 = k := h1.symm.trans e
      have b : atKey (q :: qs) k = some q.2 := by simp [atKey, List.find?_cons, e']
      rw [valV_pos e, b]; exact h2
    · have e' : ¬ q.1 = k := fun z => e (h1.trans z)
      have b : atKey (q :: qs) k = atKey qs k := by simp [atKey, List.find?_cons, e']
      rw [valV_neg e, b]; exact ih
theorem KT.repl {H : Hp} {kvs : List (List Key × V)} {xs : List (List Key × Addr × Value)} (r : KT H kvs xs) (k : List Key) {y : V} {u : Value} (ry : RelV y u) :
    KT H (kvs.map fun kv => if kv.1 = k then (kv.1, y) else kv) (xs.map (putAt k u)) := by
  induction r with
  | nil => exact .nil
  | @cons p q ps qs h t ih =>
    rw [List.map_cons, List.map_cons]
    refine .cons ?_ ih
    obtain ⟨h1, h2, h3⟩ := h
    unfold putAt
    by_cases e : p.1 = k
    · rw [if_pos e, if_pos (h1.symm.trans e)]; exact ⟨h1, h2, ry⟩
    · rw [if_neg e, if_neg (fun z => e (h1.trans z))]; exact ⟨h1, h2, h3⟩
theorem KT.put {H : Hp} {kvs : List (List Key × V)} {xs : List (List Key × Addr × Value)} (r : KT H kvs xs) (k : List Key) {b : Addr} {y : V} {u : Value} (hb : H b = some (.tup (k.map kV))) (ry : RelV y u) :
    KT H (putK kvs k y) (storedH xs k b u) := by
  have e : (kvs.any fun kv => decide (kv.1 = k)) = (atKey xs k).isSome := by
    rw [valV_any, (r.val k).isSome_eq, Option.isSome_map]
  unfold putK storedH
  rw [e]
  by_cases q : (atKey xs k).isSome = true
  · rw [if_pos q, if_pos q]; exact r.repl k ry
  · rw [if_neg q, if_neg q]; exact Paired.snoc r ⟨rfl, hb, ry⟩
theorem KT.keeps {H H' : Hp} {kvs : List (List Key × V)} {xs : List (List Key × Addr × Value)} (r : KT H kvs xs) (ht : ∀ b ys, H b = some (.tup ys) → H' b = some (.tup ys)) : KT H' kvs xs :=
  Paired.mapP r fun _ _ z => ⟨z.1, ht _ _ z.2.1, z.2.2⟩
section
variable {P : Program} {w : World} {H : Hp} {h : Heap} {a : Addr}
theorem rd_of {u : HO} (ok : HOk P w H h) (e : Rd H a u) : ObjOk P w H h a u := e.ok ok
theorem dk_rd {kvs : List (Key × V)} (ok : HOk P w H h) (e : Rd H a (.dK kvs)) : kvs.length ≤ sizeLine ∧ (a == sysModules) = false ∧ ∃ vs, KV kvs vs ∧ h.DictOf (mixKind P w) a vs :=
  show ObjOk P w H h a (.dK kvs) from rd_of ok e
theorem dk_of {kvs : List (Key × V)} (ok : HOk P w H h) (e : H a = some (.dK kvs)) : kvs.length ≤ sizeLine ∧ (a == sysModules) = false ∧ ∃ vs, KV kvs vs ∧ h.DictOf (mixKind P w) a vs := dk_rd ok (.inl e)
/-- a tracked tuple of ints and texts is a key -/
theorem key_of {ks : List Key} (ok : HOk P w H h) (e : H a = some (.tup (ks.map kV))) : (tupleKind (mixKind P w)).is h ks a := by
  obtain ⟨_, its, r, o, h1, h2, n, h3⟩ := (show ObjOk P w H h a (.tup (ks.map kV)) from ok a _ e)
  exact ⟨o, its.toArray, n, h1, h2, h3, by simpa using items_are r⟩
theorem dt_rd {kvs : List (List Key × V)} (ok : HOk P w H h) (e : Rd H a (.dT kvs)) : kvs.length ≤ sizeLine ∧ (a == sysModules) = false ∧
    ∃ xs, KT H kvs xs ∧ h.DictOfH (tupleKind (mixKind P w)) a xs := by
  obtain ⟨z, y, xs, r, o, es, ep, h1, h2, h3, h4, h5⟩ := (show ObjOk P w H h a (.dT kvs) from rd_of ok e)
  refine ⟨z, y, xs, r, o, es, ep, h1, h2, h3, h4, fun x hx => ?_, h5⟩
  have all : ∀ {l : List (List Key × V)} {m : List (List Key × Addr × Value)}, KT H l m → ∀ x ∈ m, (tupleKind (mixKind P w)).is h x.1 x.2.1 := by
    intro l m q
    induction q with
    | nil => intro x hx; exact nomatch hx
    | @cons p q ps qs hq t ih =>
      intro x hx
      rcases List.mem_cons.mp hx with e | hx
      · subst e
        exact key_of ok (by rw [← hq.1]; exact hq.2.1)
      · exact ih x hx
  exact all r x hx
theorem dt_of {kvs : List (List Key × V)} (ok : HOk P w H h) (e : H a = some (.dT kvs)) : kvs.length ≤ sizeLine ∧ (a == sysModules) = false ∧
    ∃ xs, KT H kvs xs ∧ h.DictOfH (tupleKind (mixKind P w)) a xs := dt_rd ok (.inl e)
end
/-- what the dict at a holds at the key y -/
def DGet (H : Hp) (a : Addr) (y : V) (r : Option V) : Prop :=
  (∃ kvs k, Rd H a (.dK kvs) ∧ y = kV k ∧ r = valV kvs k) ∨ ∃ kvs k b, Rd H a (.dT kvs) ∧ y = .ref b ∧ H b = some (.tup (k.map kV)) ∧ r = valV kvs k
/-- the heap behind a[y] = v -/
def DPut (H : Hp) (a : Addr) (y v : V) (H' : Hp) : Prop :=
  (∃ kvs k, H a = some (.dK kvs) ∧ y = kV k ∧ kvs.length < sizeLine ∧ H' = upd H a (.dK (putK kvs k v))) ∨
  ∃ kvs k b, H a = some (.dT kvs) ∧ y = .ref b ∧ H b = some (.tup (k.map kV)) ∧ kvs.length < sizeLine ∧ H' = upd H a (.dT (putK kvs k v))
theorem DGet.k {H : Hp} {a : Addr} {kvs : List (Key × V)} {k : Key} (e : H a = some (.dK kvs)) : DGet H a (kV k) (valV kvs k) := .inl ⟨kvs, k, .inl e, rfl, rfl⟩
theorem DPut.k {H : Hp} {a : Addr} {kvs : List (Key × V)} {k : Key} {v : V} (e : H a = some (.dK kvs)) (hl : kvs.length < sizeLine) : DPut H a (kV k) v (upd H a (.dK (putK kvs k v))) := .inl ⟨kvs, k, e, rfl, hl, rfl⟩
section
variable {X : Cx} {pins : List (Addr × Obj)} {σ : St} {H : Hp} {s : Shared} {a : Addr} {y v : V} {u r : Value} {o : Option V} {A : Around} {E : Value → Shared → Prop}
theorem Inv.big (I : Inv X pins σ H s) : sysModules < s.heap.objs.size := by
  have h : mainGlobals < s.heap.objs.size := (I.mod.glob.keeps I.bk).lt
  exact Nat.lt_trans (by decide) h
/-- d[y], there -/
theorem d_getItem {Q : Value → Shared → Prop} (hu : A.units + 1 < cLine) (I : Inv X pins σ H s) (g : DGet H a y (some v)) (ry : RelV y u) (h : ∀ w' s', Inv X pins σ H s' → RelV v w' → Q w' s') :
    wpAny (model X.prog X.w) A (getItem (.ref a) u) Q E s := by
  rcases g with ⟨kvs, k, e, ey, l⟩ | ⟨kvs, k, b, e, ey, eb, l⟩
  · subst ey
    obtain ⟨z, hd, vs, rel, dd⟩ := dk_rd I.hok e
    obtain ⟨w', hw, rw'⟩ := RelO.some_of (v := v) (o := valueAt vs k) (by rw [l]; exact rel.val k)
    exact wpAny_getItem_of (kV_is ry) dd.mapOf hw (h w' _ (I.tok _) rw')
  · subst ey
    cases (show u = Value.ref b from ry)
    obtain ⟨z, hd, xs, rel, dd⟩ := dt_rd I.hok e
    obtain ⟨w', hw, rw'⟩ := RelO.some_of (v := v) (o := (atKey xs k).map (·.2)) (by rw [l]; exact rel.val k)
    obtain ⟨p, hp, hp2⟩ := Option.map_eq_some_iff.mp hw
    refine wpAny_getItem_heap (tupleKind_room_in1 hu) (key_of I.hok eb) dd hp ?_
    rw [hp2]
    exact h w' _ (I.tok _) rw'
/-- y in d -/
theorem d_in {Q : Value → Shared → Prop} (hu : A.units + 1 < cLine) (I : Inv X pins σ H s) (g : DGet H a y o) (ry : RelV y u) (h : ∀ s', Inv X pins σ H s' → Q (.bool o.isSome) s') :
    wpAny (model X.prog X.w) A (compareOp .In u (.ref a)) Q E s := by
  rcases g with ⟨kvs, k, e, ey, l⟩ | ⟨kvs, k, b, e, ey, eb, l⟩
  · subst ey
    obtain ⟨z, hd, vs, rel, dd⟩ := dk_rd I.hok e
    refine wpAny_in_of (kV_is ry) hd dd.mapOf ?_
    rw [← (rel.val k).isSome_eq, ← l]
    exact h _ (I.tok _)
  · subst ey
    cases (show u = Value.ref b from ry)
    obtain ⟨z, hd, xs, rel, dd⟩ := dt_rd I.hok e
    refine wpAny_in_heap (tupleKind_room_in1 hu) (key_of I.hok eb) hd dd ?_
    have q := (rel.val k).isSome_eq
    rw [Option.isSome_map] at q
    rw [← q, ← l]
    exact h _ (I.tok _)
theorem d_notIn {Q : Value → Shared → Prop} (hu : A.units + 1 < cLine) (I : Inv X pins σ H s) (g : DGet H a y o) (ry : RelV y u) (h : ∀ s', Inv X pins σ H s' → Q (.bool (!o.isSome)) s') :
    wpAny (model X.prog X.w) A (compareOp .NotIn u (.ref a)) Q E s := by
  rcases g with ⟨kvs, k, e, ey, l⟩ | ⟨kvs, k, b, e, ey, eb, l⟩
  · subst ey
    obtain ⟨z, hd, vs, rel, dd⟩ := dk_rd I.hok e
    refine wpAny_notIn_of (kV_is ry) hd dd.mapOf ?_
    rw [← (rel.val k).isSome_eq, ← l]
    exact h _ (I.tok _)
  · subst ey
    cases (show u = Value.ref b from ry)
    obtain ⟨z, hd, xs, rel, dd⟩ := dt_rd I.hok e
    refine wpAny_notIn_heap (tupleKind_room_in1 hu) (key_of I.hok eb) hd dd ?_
    have q := (rel.val k).isSome_eq
    rw [Option.isSome_map] at q
    rw [← q, ← l]
    exact h _ (I.tok _)
/-- a dict's object is replaced -/
theorem d_write {h' : Heap} {t' : Nat} {ob : HO} (I : Inv X pins σ H s) (mu : Mut (H a)) (hs : Heap.SameBut a s.heap h') (he : ∃ q, h'.get? a = some q) (new : ObjOk X.prog X.w (upd H a ob) h' a ob) :
    Inv X pins σ (upd H a ob) { s with heap := h', toks := t' } :=
  I.write (x := a) (e := a) mu (.inl rfl) (fun b q hb z => (hs.2 b hb).trans z) he new
theorem dk_new {P : Program} {w : World} {H' : Hp} {h' : Heap} {kvs : List (Key × V)} {vs : List (Key × Value)} (z : kvs.length ≤ sizeLine) (hd : (a == sysModules) = false) (rel : KV kvs vs) (dd : h'.DictOf (mixKind P w) a vs) :
    ObjOk P w H' h' a (.dK kvs) := ⟨z, hd, vs, rel, dd⟩
/-- d[y] = v -/
theorem d_setItem {H' : Hp} {Q : Unit → Shared → Prop} (hu : A.units + 1 < cLine) (I : Inv X pins σ H s) (g : DPut H a y v H') (ry : RelV y u) (rv : RelV v r) (h : ∀ s', Inv X pins σ H' s' → Q () s') :
    wpAny (model X.prog X.w) A (setItem (.ref a) u r) Q E s := by
  rcases g with ⟨kvs, k, e, ey, l, eH⟩ | ⟨kvs, k, b, e, ey, eb, l, eH⟩
  · subst ey eH
    obtain ⟨z, hd, vs, rel, dd⟩ := dk_of I.hok e
    have hz : vs.length ≤ sizeLine := by rw [← rel.length]; exact z
    have hl : (putK kvs k v).length ≤ sizeLine := by have := length_putK kvs k v; omega
    refine wpAny_setItem_pairs (hsz := hz) (kV_is ry) dd fun h' dd' hs => h _ ?_
    have he : ∃ q, h'.get? a = some q := let ⟨q, _, _, hq, _⟩ := dd'; ⟨q, hq⟩
    exact d_write I (by rw [e]; exact True.intro) hs he (dk_new hl hd (rel.put k rv) dd')
  · subst ey eH
    cases (show u = Value.ref b from ry)
    obtain ⟨z, hd, xs, rel, dd⟩ := dt_of I.hok e
    have hz : xs.length ≤ sizeLine := by rw [← Paired.length rel]; exact z
    have hl : (putK kvs k v).length ≤ sizeLine := by have := length_putK kvs k v; omega
    refine wpAny_setItem_heap (hsz := hz) (tupleKind_room_in1 hu) (key_of I.hok eb) dd fun h' dd' hs => h _ ?_
    obtain ⟨q, es, ep, hq, h2, h3, h4, _, h5⟩ := dd'
    refine d_write I (by rw [e]; exact True.intro) hs ⟨q, hq⟩ ⟨hl, hd, _, (rel.put k eb rv).keeps fun c ys ec => ?_, q, es, ep, hq, h2, h3, h4, h5⟩
    rw [upd_ne (ne_of ec e (fun z => nomatch z))]
    exact ec
end
section
variable {X : Cx} {pins : List (Addr × Obj)} {σ : St} {H : Hp} {s : Shared} {a : Addr} {kvs : List (Key × V)} {k : Key} {u : Value} {A : Around} {E : Value → Shared → Prop}
/-- len(d) -/
theorem d_len {Q : Value → Shared → Prop} (I : Inv X pins σ H s) (e : Rd H a (.dK kvs)) (h : ∀ t s', Inv X pins σ H s' → Q (.int kvs.length t) s') : wpAny (model X.prog X.w) A (call (.builtin "len") [.ref a]) Q E s := by
  obtain ⟨z, hd, vs, rel, dd⟩ := dk_rd I.hok e
  refine call_len_dict hd dd (by rw [← rel.length]; rw [sizeLine_eq] at z; omega) ?_
  rw [← rel.length]
  exact h _ _ (I.tok _)
end
/-! ### readings and rules -/
/-- the element of a subscription, not a slice -/
def NoSl (i : Expr) : Prop := ∀ ov iv, subscripted i false ov iv = operate [ov, iv] (getItem ov iv)
theorem subD_of {prog : Program} {w : World} {A : Around} {E : Value → Shared → Prop} {s : Shared} {env : Env} {value slice : Expr} {pos : Pos} {T id : String} {Q : Value → Shared → Prop}
    (hl : typeLookup (.type T) "__getitem__" = pure (some (.builtin id))) (hs : NoSl slice)
    (h : wpAny (model prog w) A (eval value env) (fun o s₁ => wpAny (model prog w) A (eval slice env) (fun i s₂ => s₂.TypeIs o T ∧ wpAny (model prog w) A (getItem o i) Q E s₂) E s₁) E s) :
    wpAny (model prog w) A (eval (.Subscript value slice pos) env) Q E s := by
  refine Subscript_ (wpAny_mono h (fun o s₁ h₁ => wpAny_mono h₁ (fun i s₂ h₂ => ?_) fun _ _ x => x) fun _ _ x => x)
  obtain ⟨hT, h₂⟩ := h₂
  unfold subscriptTail
  refine wpAny_bind ?_
  rw [getitemInPython_of_ne hT.not_modules]
  refine wpAny_bind (wpAny_specialOf hT hl ?_)
  have fin : wpAny (model prog w) A (subscripted slice false o i) (fun r s₃ => wpAny (model prog w) A (letTemporaryGo value o r >>= fun _ => pure r) Q E s₃) E s₂ := by
    rw [hs o i]
    exact wpAny_operating (wpAny_mono h₂ (fun r s₃ h₃ => wpAny_bind (wpAny_letTemporaryGo (wpAny_pure h₃))) fun _ _ x => x)
  first
    | exact wpAny_pure (wpAny_bind fin)
    | exact wpAny_bind (wpAny_pure (wpAny_bind fin))
    | exact wpAny_bind fin
theorem dict_typeIs {X : Cx} {pins : List (Addr × Obj)} {σ : St} {H : Hp} {s : Shared} {a : Addr} {y : V} {o : Option V} (I : Inv X pins σ H s) (g : DGet H a y o) : s.TypeIs (.ref a) "dict" := by
  rcases g with ⟨kvs, k, e, _, _⟩ | ⟨kvs, k, b, e, _, _, _⟩
  · obtain ⟨_, _, vs, _, dd⟩ := dk_rd I.hok e
    exact dd.typeIs
  · obtain ⟨_, _, xs, _, dd⟩ := dt_rd I.hok e
    exact dd.typeIs
/-- d[y] -/
def tDGet (td ty : TE) : TE := fun σ H Q => td σ H fun x H1 => ty σ H1 fun y H2 => ∃ a v, x = .ref a ∧ DGet H2 a y (some v) ∧ Q v H2
/-- y in d, y not in d -/
def tDIn (ty td : TE) : TE := fun σ H Q => ty σ H fun y H1 => td σ H1 fun x H2 => ∃ a o, x = .ref a ∧ DGet H2 a y o ∧ Q (.bl o.isSome) H2
def tDNotIn (ty td : TE) : TE := fun σ H Q => ty σ H fun y H1 => td σ H1 fun x H2 => ∃ a o, x = .ref a ∧ DGet H2 a y o ∧ Q (.bl (!o.isSome)) H2
/-- d[y] = v -/
def sDPut (td ty tv : TE) : TS := fun D σ H => tv σ H fun v H1 => td σ H1 fun x H2 => ty σ H2 fun y H3 => ∃ a H4, x = .ref a ∧ DPut H3 a y v H4 ∧ D.nx σ H4
section
variable {X : Cx} {o i e value : Expr} {pos pos' tpos : Pos} {td ty tv : TE}
theorem pe_dget (hu : X.A.units + 1 < cLine) (ho : PE X o td) (hi : PE X i ty) (hs : NoSl i) : PE X (.Subscript o i pos) (tDGet td ty) := by
  intro pins s σ H Q I h
  refine subD_of PySem.F.slot_dict_getitem.lookup hs (thn (ho pins s σ H _ I h) fun u s1 ⟨x, H1, I1, rx, q1⟩ => thn (hi pins s1 σ H1 _ I1 q1) fun iv s2 ⟨y, H2, I2, ry, a, v, ex, g, q2⟩ => ?_)
  subst ex
  obtain rfl : u = Value.ref a := rx
  exact ⟨dict_typeIs I2 g, d_getItem hu I2 g ry fun w' s3 I3 rw' => ⟨v, H2, I3, rw', q2⟩⟩
theorem pc_din (hu : X.A.units + 1 < cLine) (hi : PE X i ty) (ho : PE X o td) : PC X .In i o (tDIn ty td) := by
  intro pins s σ H Q I h
  refine thn (hi pins s σ H _ I h) fun iv s1 ⟨y, H1, I1, ry, q1⟩ => thn (ho pins s1 σ H1 _ I1 q1) fun u s2 ⟨x, H2, I2, rx, a, ov, ex, g, q2⟩ => ?_
  subst ex
  obtain rfl : u = Value.ref a := rx
  exact d_in hu I2 g ry fun s3 I3 => ⟨.bl ov.isSome, H2, I3, rfl, q2⟩
theorem pc_dnotin (hu : X.A.units + 1 < cLine) (hi : PE X i ty) (ho : PE X o td) : PC X .NotIn i o (tDNotIn ty td) := by
  intro pins s σ H Q I h
  refine thn (hi pins s σ H _ I h) fun iv s1 ⟨y, H1, I1, ry, q1⟩ => thn (ho pins s1 σ H1 _ I1 q1) fun u s2 ⟨x, H2, I2, rx, a, ov, ex, g, q2⟩ => ?_
  subst ex
  obtain rfl : u = Value.ref a := rx
  exact d_notIn hu I2 g ry fun s3 I3 => ⟨.bl (!ov.isSome), H2, I3, rfl, q2⟩
theorem ps_dput (hu : X.A.units + 1 < cLine) (ho : PE X o td) (hi : PE X i ty) (hv : PE X value tv) (hs : swapsWith value (some (.Subscript o i pos')) pos.line X.env = pure false) :
    PS X (.Assign [.Subscript o i pos'] value pos) (sDPut td ty tv) := by
  intro pins s σ H D I h
  refine wpAny_Assign_Subscript (thn (hv pins s σ H _ I h) fun r s1 ⟨v, H1, I1, rv, q1⟩ => thn (ho pins s1 σ H1 _ I1 q1) fun u s2 ⟨x, H2, I2, rx, q2⟩ => thn (hi pins s2 σ H2 _ I2 q2) fun iv s3 ⟨y, H3, I3, ry, a, H4, ex, g, q3⟩ => ?_) hs
  subst ex
  obtain rfl : u = Value.ref a := rx
  exact d_setItem hu I3 g ry rv fun s4 I4 => ⟨σ, H4, I4, q3⟩
end
/-! ### displays -/
theorem dk_empty {P : Program} {w : World} {H : Hp} (h : Heap) (hb : sysModules < h.objs.size) : ObjOk P w H (h.push { cls := .type "dict", data := .dict #[] }) h.objs.size (.dK []) :=
  ⟨Nat.zero_le _, beq_eq_false_iff_ne.mpr (Ne.symm (Nat.ne_of_lt hb)), [], .nil, Heap.DictOf.new h⟩
section
variable {X : Cx} {pos : Pos}
end
/-- the pairs of a display, from the left -/
def tPairs : List (TE × TE) → St → Hp → (List (V × V) → Hp → Prop) → Prop
  | [], _, H, Q => Q [] H
  | (tk, tv) :: r, σ, H, Q => tk σ H fun x H1 => tv σ H1 fun y H2 => tPairs r σ H2 fun ps H3 => Q ((x, y) :: ps) H3
abbrev VV : List (V × V) → List (Value × Value) → Prop := Paired fun p q => RelV p.1 q.1 ∧ RelV p.2 q.2
def PPs (X : Cx) (pos : Pos) (keys : List (Option Expr)) (values : List Expr) (trs : List (TE × TE)) : Prop :=
  ∀ (pins : List (Addr × Obj)) (s : Shared) (σ : St) (H : Hp) (Q : List (V × V) → Hp → Prop), Inv X pins σ H s → tPairs trs σ H Q →
    wpAny (model X.prog X.w) X.A (evalPairs (pairTrees keys values X.env pos)) (fun vs s' => ∃ ps H', Inv X pins σ H' s' ∧ VV ps vs ∧ Q ps H') X.xe s
theorem pps_nil {X : Cx} {pos : Pos} : PPs X pos [] [] [] := fun pins s σ H Q I h => pairTrees_nil_walk ⟨[], H, I, .nil, h⟩
theorem pps_cons {X : Cx} {pos : Pos} {k v : Expr} {ks : List (Option Expr)} {vs : List Expr} {tk tv : TE} {trs : List (TE × TE)} (hk : PE X k tk) (hv : PE X v tv) (hr : PPs X pos ks vs trs) :
    PPs X pos (some k :: ks) (v :: vs) ((tk, tv) :: trs) := fun pins s σ H Q I h =>
  pairTrees_cons_walk (thn (hk pins s σ H _ I h) fun u s1 ⟨x, H1, I1, rx, q1⟩ => thn (hv pins s1 σ H1 _ I1 q1) fun w2 s2 ⟨y, H2, I2, ry, q2⟩ =>
    thn (hr pins s2 σ H2 _ I2 q2) fun ws s3 ⟨ps, H3, I3, rel, q3⟩ => ⟨(x, y) :: ps, H3, I3, .cons ⟨rx, ry⟩ rel, q3⟩)
def mergeK (kvs more : List (Key × V)) : List (Key × V) := more.foldl (fun acc kv => putK acc kv.1 kv.2) kvs
theorem KV.merge : ∀ {more : List (Key × V)} {rs : List (Key × Value)} {kvs : List (Key × V)} {vs : List (Key × Value)}, KV more rs → KV kvs vs → KV (mergeK kvs more) (merged vs rs) := by
  intro more rs kvs vs r
  unfold KV at r
  induction r generalizing kvs vs with
  | nil => intro q; exact q
  | @cons p q ps qs h t ih =>
    intro r0
    have e : KV (putK kvs p.1 p.2) (stored vs q.1 q.2) := by
      have := r0.put p.1 h.2
      rw [← h.1]; exact this
    exact ih e
theorem length_mergeK : ∀ (more kvs : List (Key × V)), (mergeK kvs more).length ≤ kvs.length + more.length
  | [], kvs => by show kvs.length ≤ kvs.length + 0; omega
  | p :: r, kvs => by
    have h1 := length_mergeK r (putK kvs p.1 p.2)
    have h2 := length_putK kvs p.1 p.2
    show (mergeK (putK kvs p.1 p.2) r).length ≤ _
    rw [List.length_cons]; omega
theorem carries_of {P : Program} {w : World} : ∀ {kvs : List (Key × V)} {ws : List (Value × Value)}, VV (kvs.map fun kv => (kV kv.1, kv.2)) ws → ∃ rs, Carries (mixKind P w) ws rs ∧ KV kvs rs
  | [], _, r => by rw [List.map_nil] at r; cases r; exact ⟨[], True.intro, .nil⟩
  | p :: kvs, _, r => by
    rw [List.map_cons] at r
    cases r with
    | @cons a b as bs h t =>
      obtain ⟨rs, c, q⟩ := carries_of (P := P) (w := w) t
      obtain ⟨b1, b2⟩ := b
      exact ⟨(p.1, b2) :: rs, ⟨kV_is h.1, rfl, c⟩, .cons ⟨rfl, h.2⟩ q⟩
/-- {k: v, ..} with keys ints and texts; the new dict stands empty while the pairs are made -/
def tDisp (trs : List (TE × TE)) : TE := fun σ H Q => ∀ p, H p = none → tPairs trs σ (upd H p (.dK [])) fun ps H2 => H2 p = some (.dK []) ∧ ∃ kvs : List (Key × V), ps = kvs.map (fun kv => (kV kv.1, kv.2)) ∧ kvs.length ≤ 15 ∧ Q (.ref p) (upd H2 p (.dK (mergeK [] kvs)))
theorem pe_disp {X : Cx} {pos : Pos} {keys : List (Option Expr)} {values : List Expr} {trs : List (TE × TE)} (h : PPs X pos keys values trs) (hall : keys.all (·.isSome) = true) (hl : keys.length = values.length) (h0 : keys ≠ [])
    (h15 : keys.length ≤ 15) : PE X (.Dict keys values pos) (tDisp trs) := by
  intro pins s σ H Q I q
  have hn := I.hok.fresh (Nat.le_refl s.heap.objs.size)
  have I1 := I.laid (a := s.heap.objs.size) (o := .dK []) (h' := s.heap.push { cls := .type "dict", data := .dict #[] }) (t' := s.toks) (fun _ _ q => Heap.get?_push_of_some _ q) (Nat.le_refl _) (dk_empty s.heap I.big)
  refine wpAny_Dict_walk (knd := mixKind X.prog X.w) hall hl h0 h15 (thn (h pins _ σ _ _ I1 (q _ hn)) fun ws s2 ⟨ps, H2, I2, rel, e, kvs, ep, lk, q2⟩ => ?_)
  subst ep
  obtain ⟨rs, c, rk⟩ := carries_of (P := X.prog) (w := X.w) rel
  obtain ⟨z, hd, vs0, r0, dd⟩ := dk_of I2.hok e
  cases r0
  refine ⟨rs, c, dd, fun h' dd' hs => ⟨.ref s.heap.objs.size, _, ?_, rfl, q2⟩⟩
  have hz : (mergeK [] kvs).length ≤ sizeLine := by
    have h1 := length_mergeK kvs []
    rw [List.length_nil] at h1
    rw [sizeLine_eq]; omega
  have he : ∃ q, h'.get? s.heap.objs.size = some q := let ⟨q, _, _, hq, _⟩ := dd'; ⟨q, hq⟩
  exact d_write I2 (by rw [e]; exact True.intro) hs he (dk_new hz hd (rk.merge .nil) dd')
/-! ### methods -/
section
variable {X : Cx} {pins : List (Addr × Obj)} {σ : St} {H : Hp} {s : Shared} {a : Addr} {y d : V} {u r : Value} {o : Option V} {A : Around} {E : Value → Shared → Prop}
end
section
variable {X : Cx} {o e f : Expr} {apos cpos : Pos} {td ty tx : TE}
end
/-! ### dict(d): a copy -/
section
variable {X : Cx} {pins : List (Addr × Obj)} {σ : St} {H : Hp} {s : Shared} {a : Addr} {kvs : List (Key × V)} {A : Around} {E : Value → Shared → Prop}
end
section
variable {X : Cx} {pins : List (Addr × Obj)} {σ : St} {H : Hp} {s : Shared} {a : Addr} {y : V} {u : Value} {A : Around} {E : Value → Shared → Prop}
end
end L2
namespace L2
open PySem PySem.Spec PyProof.Rows
section
variable {prog : Program} {w : World} {A : Around} {E : Value → Shared → Prop}
end
section
variable {X : Cx}
end
end L2
namespace L2
open PySem PySem.Spec PyProof.Rows
section
variable {X : Cx} {pins : List (Addr × Obj)} {σ : St} {H : Hp} {s : Shared} {h' : Heap}
/-! ### locking a thing while a statement runs -/
theorem Inv.lock {d : Addr} {u : HO} (I : Inv X pins σ H s) (h : H d = some u) (mu : Mut (some u)) : ∃ od, Inv X pins σ (upd H d (.frz od u)) s := by
  have x := I.hok d u h
  have ex : ∃ od, s.heap.get? d = some od := by
    cases u with
    | lst xs => obtain ⟨_, _, _, _, e⟩ := x; exact ⟨_, e⟩
    | dK kvs => obtain ⟨_, _, _, _, o, _, _, e, _⟩ := x; exact ⟨o, e⟩
    | dT kvs => obtain ⟨_, _, _, _, o, _, _, e, _⟩ := x; exact ⟨o, e⟩
    | set S n => obtain ⟨o, _, _, _, e, _⟩ := x; exact ⟨o, e⟩
    | ins C dx fs => obtain ⟨_, _, _, e, _⟩ := x; exact ⟨_, e⟩
    | ext φ => obtain ⟨_, ⟨_, e⟩, _⟩ := x; exact ⟨_, e⟩
    | _ => exact False.elim mu
  obtain ⟨od, e⟩ := ex
  have new : ObjOk X.prog X.w (upd H d (.frz od u)) s.heap d (.frz od u) := by
    refine ⟨e, x.stay (fun b v _ q => q) (fun b q => ?_) fun b xs q => ?_⟩
    · rw [upd_ne (fun z => by rw [z, h] at q; cases q; exact mu)]; exact q
    · rw [upd_ne (fun z => by rw [z, h] at q; cases q; exact mu)]; exact q
  exact ⟨od, I.write (x := d) (e := d) (t' := s.toks) (h' := s.heap) (by rw [h]; exact mu) (.inl rfl) (fun b v _ q => q) ⟨od, e⟩ new⟩
theorem Inv.nofrz {d : Addr} {u : HO} (I : Inv X pins σ H s) (h : H d = some u) (mu : Mut (some u)) : ∀ o' u', X.H_0 d ≠ some (.frz o' u') := fun o' u' e => by
  have q := I.base.frzs d o' u' e
  rw [h] at q
  cases q
  exact mu
theorem Inv.unlock {d : Addr} {od : Obj} {u : HO} (I : Inv X pins σ H s) (h : H d = some (.frz od u)) (hn : ∀ o' u', X.H_0 d ≠ some (.frz o' u')) : Inv X pins σ (upd H d u) s := by
  have neH : ∀ b o, H b = some o → (∀ o' u', o ≠ .frz o' u') → b ≠ d := fun b o e hne z => by
    rw [z, h] at e
    cases e
    exact hne _ _ rfl
  have neN : ∀ b, H b = none → b ≠ d := fun b e z => by rw [z, h] at e; cases e
  refine ⟨I.ok, I.os, I.bare, ⟨I.base.keep, I.base.slot, fun b o e n hx => ?_, I.base.there, fun b xs e => ?_, fun b o x e => ?_, fun b ps e => ?_⟩, I.loc, I.cell, ?_, fun x c e => ?_, fun p hp => ?_, fun b o e => ?_, I.len⟩
  · rw [upd_ne (neN b (I.base.free b o e n hx))]; exact I.base.free b o e n hx
  · have q := I.base.tups b xs e
    rw [upd_ne (neH b _ q (fun _ _ z => nomatch z))]; exact q
  · have q := I.base.frzs b o x e
    rw [upd_ne (fun z => by rw [z] at e; exact hn _ _ e)]; exact q
  · obtain ⟨m, q⟩ := I.base.tbls b ps e
    exact ⟨m, by rw [upd_ne (neH b _ q (fun _ _ z => nomatch z))]; exact q⟩
  · rw [upd_ne (neN _ I.free)]; exact I.free
  · rw [upd_ne (neN c (I.freeC x c e))]; exact I.freeC x c e
  · obtain ⟨e, n, r⟩ := I.pin p hp
    exact ⟨e, by rw [upd_ne (neN _ n)]; exact n, r⟩
  · by_cases hb : b = d
    · rw [hb, upd_same] at e
      cases e
      rw [hb]
      obtain ⟨_, x⟩ := I.hok d _ h
      exact x.stay (fun c v _ q => q) (fun c q => by rw [upd_ne (neH c _ q (fun _ _ z => nomatch z))]; exact q) fun c xs q => by rw [upd_ne (neH c _ q (fun _ _ z => nomatch z))]; exact q
    · rw [upd_ne hb] at e
      exact (I.hok b o e).stay (fun c v _ q => q) (fun c q => by rw [upd_ne (neH c _ q (fun _ _ z => nomatch z))]; exact q) fun c xs q => by rw [upd_ne (neH c _ q (fun _ _ z => nomatch z))]; exact q
end
/-- the statement runs while the thing at d is locked (read, not written); d and what stands there are the reading's choice -/
def tLock (t : TS) : TS := fun D σ H => ∃ d u, H d = some u ∧ Mut (some u) ∧ ∀ od, t ⟨fun σ' H' => H' d = some (.frz od u) ∧ D.nx σ' (upd H' d u), fun v H' => H' d = some (.frz od u) ∧ D.rt v (upd H' d u), fun σ' H' => H' d = some (.frz od u) ∧ D.bk σ' (upd H' d u), fun σ' H' => H' d = some (.frz od u) ∧ D.ct σ' (upd H' d u)⟩ σ (upd H d (.frz od u))
section
variable {X : Cx}
theorem ps_lock {st : Stmt} {t : TS} (h : PS X st t) : PS X st (tLock t) := by
  intro pins s σ H D I hw
  obtain ⟨d, u, hd, mu, hw⟩ := hw
  obtain ⟨od, I1⟩ := I.lock hd mu
  refine thn (h pins s σ _ _ I1 (hw od)) fun f s1 q => ?_
  cases f with
  | next => obtain ⟨σ', H', I2, e, q⟩ := q; exact ⟨σ', _, I2.unlock e (I.nofrz hd mu), q⟩
  | brk => obtain ⟨σ', H', I2, e, q⟩ := q; exact ⟨σ', _, I2.unlock e (I.nofrz hd mu), q⟩
  | cont => obtain ⟨σ', H', I2, e, q⟩ := q; exact ⟨σ', _, I2.unlock e (I.nofrz hd mu), q⟩
  | ret v => obtain ⟨x, σ', H', I2, r, e, q⟩ := q; exact ⟨x, σ', _, I2.unlock e (I.nofrz hd mu), r, q⟩
/-! ### one iterator just laid -/
theorem pi_one {tg : Expr} {pins : List (Addr × Obj)} {σ : St} {H : Hp} {s : Shared} {R : It → Hp → Prop} {J : It} {tn : Nat → Heap → Prop} {tk : Nat} (I : Inv X pins σ H s) (o : Obj)
    (T : Turn X.prog X.w X.K tg J [s.heap.objs.size] s.heap.objs.size tn) (st : tn 0 (s.heap.push o)) (q : R J H) : PIE X pins σ tg R (.ref s.heap.objs.size) { s with heap := s.heap.push o, toks := tk } := by
  refine ⟨s.heap.objs.size, [s.heap.objs.size], tn, J, H, rfl, I.kept fun b ob e => Heap.get?_push_of_some _ e, T, st, fun b hb => ?_, q⟩
  have e : b = s.heap.objs.size := by simpa using hb
  subst e
  exact I.fpOk (Nat.le_refl _) (I.hok.fresh (Nat.le_refl _))
end
/-! ### range with a step -/
section
variable {X : Cx} {tg : Expr}
end
/-! ### reversed(list) -/
section
variable {X : Cx} {tg : Expr}
end
/-! ### a str -/
/-! ### a dict's keys: any dict's entries -/
section
variable {prog : Program} {w : World} {A : Around} {E : Value → Shared → Prop} {s : Shared}
theorem iter_keys {d : Addr} {o : Obj} {es : Array DictEntry} {ep : Nat} {Q : Value → Shared → Prop} (hd : (d == sysModules) = false) (ho : s.heap.get? d = some o) (hc : o.ExactDict) (hdat : o.data = .dict es ep)
    (hQ : Q (.ref s.heap.objs.size) { s with heap := s.heap.push { cls := .type "dict_keyiterator", data := .fields #[.ref d, .int 0 0, .int es.size 0, .int ep 0] } }) :
    wpAny (model prog w) A (pyIter (.ref d)) Q E s := by
  have hT : s.TypeIs (.ref d) "dict" := ⟨o, ho, hc.1⟩
  refine wpAny_pyIter_slot hT F.slot_dict_iter (wpAny_call_entry F.slot_dict_iter hT F.entry_dict_iter ?_ (F.args_dict_iter_1 _))
  unfold Builtin.«dict.__iter__»
  refine wpAny_bind ?_
  unfold Builtin.Dict.dictSlotNone
  refine wpAny_bind (wpAny_notOrdered_dict hT ?_)
  show wpAny _ _ (pure (Value.ref d)) _ _ s
  refine wpAny_pure ?_
  show wpAny _ _ (Builtin.Dict.showsAll d >>= _) _ _ s
  unfold Builtin.Dict.showsAll
  rw [if_neg (by rw [hd]; exact Bool.false_ne_true)]
  refine wpAny_bind (wpAny_pure ?_)
  refine wpAny_bind (wpAny_dictEntries ho hdat ?_)
  refine wpAny_bind (wpAny_dictEpoch ho hdat ?_)
  refine wpAny_bind (wpAny_newObj_type (wpAny_pure ⟨_, rfl, "dict_keyiterator", _, ⟨_, Heap.get?_push_size _ rfl, rfl⟩, F.slot_dict_keyiterator_next.lookup, ?_⟩))
  simpa [rawInt] using hQ
theorem next_key_item {it d : Addr} {i n ep : Nat} {od : Obj} {es : Array DictEntry} {en : DictEntry} {Q : Option Value → Shared → Prop} (hit : s.heap.IsKeyIter it d i n ep) (hod : s.heap.get? d = some od) (hdd : od.data = .dict es ep)
    (hsz : es.size = n) (hx : es[i]? = some en) (hQ : ∀ h', h'.IsKeyIter it d (i + 1) n ep → Heap.SameBut it s.heap h' → Q (some en.key) { s with heap := h' }) : wpAny (model prog w) A (pyNext (.ref it)) Q E s := by
  obtain ⟨o, ho, hc, hd⟩ := id hit
  unfold pyNext
  refine wpAny_bind (wpAny_attempt (wpAny_callSpecial?_slot (name := Str.ofString "__next__") hit.typeIs F.slot_dict_keyiterator_next
    (wpAny_call_entry F.slot_dict_keyiterator_next hit.typeIs F.entry_dict_keyiterator_next ?_ (F.args_dict_keyiterator_next_1 _))))
  refine wpAny_bind (wpAny_pure ?_)
  refine wpAny_bind ?_
  refine wpAny_bind ?_
  first | refine wpAny_bind (wpAny_typeNameOfWhole_keyiter hit.typeIs (wpAny_pure ?_)) | refine wpAny_bind (wpAny_typeNameOf_keyiter hit.typeIs (wpAny_pure ?_))
  refine wpAny_bind (wpAny_fieldsOf ho hd ?_)
  have hown : Builtin.Dict_items.ownsTuple "dict_keyiterator" = false := by decide
  simp only [hown, Bool.false_eq_true, if_false]
  show wpAny _ _ (if (Value.ref d == Value.none) = true then _ else _) _ _ s
  rw [if_neg (show ¬ ((Value.ref d == Value.none) = true) from Bool.false_ne_true)]
  refine wpAny_bind (wpAny_pure ?_)
  refine wpAny_bind (wpAny_dictEntries hod hdd ?_)
  rw [if_neg (by rw [hsz]; simp)]
  refine wpAny_bind (wpAny_pure ?_)
  refine wpAny_bind (wpAny_dictEpoch hod hdd ?_)
  rw [if_neg (by simp)]
  refine wpAny_pure ?_
  obtain ⟨hlt', hen⟩ := Array.getElem?_eq_some_iff.mp hx
  simp only [show ¬ ((i : Int) < 0) from by omega, if_false, Int.toNat_natCast, Array.getElem?_eq_getElem hlt']
  refine wpAny_bind ?_
  first | refine wpAny_bind (wpAny_typeNameOfWhole_keyiter hit.typeIs (wpAny_pure ?_)) | refine wpAny_bind (wpAny_typeNameOf_keyiter hit.typeIs (wpAny_pure ?_))
  refine wpAny_bind (wpAny_isOneOf_keyiter hit.typeIs ?_)
  show wpAny _ _ (setField (.ref it) 1 (rawInt ((i : Int) + 1)) >>= _) _ _ s
  refine wpAny_bind (wpAny_setField ho hd (by simp) ?_)
  have hit' : (s.heap.update it (Obj.mapFields (·.setIfInBounds 1 (rawInt ((i : Int) + 1))))).IsKeyIter it d (i + 1) n ep :=
    ⟨_, Heap.get?_update_self _ ho (Obj.isFreed_of_fields (Obj.data_mapFields hd _)), (Obj.cls_mapFields ..).trans hc, by rw [Obj.data_mapFields hd]; simp [rawInt]⟩
  refine wpAny_bind (wpAny_holding ?_)
  refine wpAny_bind (wpAny_isOneOf_keyiter (s := { s with heap := s.heap.update it (Obj.mapFields (·.setIfInBounds 1 (rawInt ((i : Int) + 1)))) }) hit'.typeIs ?_)
  show wpAny _ _ (pure es[i].key) _ _ _
  rw [hen]
  exact wpAny_pure (wpAny_pure ⟨_, rfl, wpAny_pure (hQ _ hit' (Heap.SameBut.update ..))⟩)
theorem next_key_end {it d : Addr} {i n ep : Nat} {od : Obj} {es : Array DictEntry} {Q : Option Value → Shared → Prop} (hh : A.handled = none) (hit : s.heap.IsKeyIter it d i n ep) (hod : s.heap.get? d = some od) (hdd : od.data = .dict es ep)
    (hsz : es.size = n) (hge : n ≤ i) (hQ : ∀ h', Heap.ExtBut it s.heap h' → Q none { s with heap := h' }) : wpAny (model prog w) A (pyNext (.ref it)) Q E s := by
  obtain ⟨o, ho, hc, hd⟩ := id hit
  unfold pyNext
  refine wpAny_bind (wpAny_attempt (wpAny_callSpecial?_slot (name := Str.ofString "__next__") hit.typeIs F.slot_dict_keyiterator_next
    (wpAny_call_entry F.slot_dict_keyiterator_next hit.typeIs F.entry_dict_keyiterator_next ?_ (F.args_dict_keyiterator_next_1 _))))
  refine wpAny_bind (wpAny_pure ?_)
  refine wpAny_bind ?_
  refine wpAny_bind ?_
  first | refine wpAny_bind (wpAny_typeNameOfWhole_keyiter hit.typeIs (wpAny_pure ?_)) | refine wpAny_bind (wpAny_typeNameOf_keyiter hit.typeIs (wpAny_pure ?_))
  refine wpAny_bind (wpAny_fieldsOf ho hd ?_)
  have hown : Builtin.Dict_items.ownsTuple "dict_keyiterator" = false := by decide
  simp only [hown, Bool.false_eq_true, if_false]
  show wpAny _ _ (if (Value.ref d == Value.none) = true then _ else _) _ _ s
  rw [if_neg (show ¬ ((Value.ref d == Value.none) = true) from Bool.false_ne_true)]
  refine wpAny_bind (wpAny_pure ?_)
  refine wpAny_bind (wpAny_dictEntries hod hdd ?_)
  rw [if_neg (by rw [hsz]; simp)]
  refine wpAny_bind (wpAny_pure ?_)
  refine wpAny_bind (wpAny_dictEpoch hod hdd ?_)
  rw [if_neg (by simp)]
  refine wpAny_pure ?_
  have hge' : es.size ≤ i := by rw [hsz]; exact hge
  simp only [show ¬ ((i : Int) < 0) from by omega, if_false, Int.toNat_natCast, Array.getElem?_eq_none hge']
  refine wpAny_bind ?_
  first | refine wpAny_bind (wpAny_typeNameOfWhole_keyiter hit.typeIs (wpAny_pure ?_)) | refine wpAny_bind (wpAny_typeNameOf_keyiter hit.typeIs (wpAny_pure ?_))
  show wpAny _ _ (setField (.ref it) 0 .none >>= _) _ _ s
  refine wpAny_bind (wpAny_setField ho hd (by simp) ?_)
  show wpAny _ _ (newExc (.type "StopIteration") [] >>= _) _ _ _
  refine wpAny_bind ?_
  simp only [newExc, newTuple]
  refine wpAny_bind (wpAny_newObj_type ?_ (by size_fits))
  refine wpAny_bind (m := firstArgMember _ _) (wpAny_of_eq (a := Value.none) (by first | rfl | (simp only [firstArgMember]; rfl)) ?_)
  refine wpAny_newObj_type ?_ (by size_fits)
  simp only [raiseNew]
  refine wpAny_bind (wpAny_handled ?_)
  rw [show A.in1.handled = none from hh]
  refine wpAny_bind (wpAny_pure (wpAny_throw ?_))
  refine wpAny_bind (wpAny_isInstance (T := "StopIteration") (b := true) ⟨_, Heap.get?_push_size _ rfl, rfl⟩ isSubtype_stop ?_)
  exact wpAny_pure (hQ _ (((Heap.SameBut.update ..).extBut.push _).push _))
end
/-! ### a locked dict -/
theorem kv_get {κ : Type} {kvs : List (κ × V)} {vs : List (κ × Value)} (h : KV kvs vs) : ∀ {i : Nat} {k : κ} {v : V}, kvs[i]? = some (k, v) → ∃ u, vs[i]? = some (k, u) ∧ RelV v u := by
  unfold KV at h
  induction h with
  | nil => intro i k v e; simp at e
  | @cons a b l₁ l₂ r t ih =>
    intro i k v e
    cases i with
    | zero =>
      simp only [List.getElem?_cons_zero, Option.some.injEq] at e
      subst e
      refine ⟨b.2, ?_, r.2⟩
      simp only [List.getElem?_cons_zero]
      exact congrArg some (Prod.ext r.1.symm rfl)
    | succ j =>
      simp only [List.getElem?_cons_succ] at e ⊢
      exact ih e
theorem paired_get {α β : Type} {G : α → β → Prop} {l₁ : List α} {l₂ : List β} (h : Paired G l₁ l₂) : ∀ {i : Nat} {a : α}, l₁[i]? = some a → ∃ b, l₂[i]? = some b ∧ G a b := by
  induction h with
  | nil => intro i a e; simp at e
  | @cons a b l₁ l₂ r t ih =>
    intro i a' e
    cases i with
    | zero =>
      simp only [List.getElem?_cons_zero, Option.some.injEq] at e
      subst e
      exact ⟨b, rfl, r⟩
    | succ j =>
      simp only [List.getElem?_cons_succ] at e ⊢
      exact ih e
theorem relV_key {k : Key} {u : Value} (h : keyIs k u = true) : RelV (kV k) u := by
  rcases keyIs_shape h with ⟨i, t, rfl, rfl⟩ | ⟨x, t, rfl, rfl⟩
  · exact ⟨t, rfl⟩
  · exact ⟨t, rfl⟩
section
variable {X : Cx} {pins : List (Addr × Obj)} {σ : St} {H : Hp} {s : Shared} {d : Addr} {o : Obj}
theorem Inv.frzK {kvs : List (Key × V)} (I : Inv X pins σ H s) (h : H d = some (.frz o (.dK kvs))) :
    (d == sysModules) = false ∧ s.heap.get? d = some o ∧ o.ExactDict ∧ ∃ (es : Array DictEntry) (ep : Nat) (vs : List (Key × Value)), o.data = .dict es ep ∧ es.size = kvs.length ∧ KV kvs vs ∧ s.heap.DictAt (mixKind X.prog X.w) d vs ep := by
  obtain ⟨hd, z, hs, vs, kv, o', es, ep, ho, hx, hdt, r⟩ := I.hok d _ h
  rw [hd] at ho
  cases ho
  refine ⟨hs, hd, hx, es, ep, vs, hdt, ?_, kv, o, es, hd, hx, hdt, r⟩
  have l1 := r.2.1.length
  have l2 : kvs.length = vs.length := Paired.length kv
  rw [Array.length_toList] at l1
  omega
/-- the same for tuple keys -/
theorem Inv.frzT {kvs : List (List Key × V)} (I : Inv X pins σ H s) (h : H d = some (.frz o (.dT kvs))) :
    (d == sysModules) = false ∧ s.heap.get? d = some o ∧ o.ExactDict ∧ ∃ (es : Array DictEntry) (ep : Nat), o.data = .dict es ep ∧ es.size = kvs.length ∧
      ∀ (i : Nat) (k : List Key) (v : V), kvs[i]? = some (k, v) → ∃ (en : DictEntry) (q : Addr), es[i]? = some en ∧ en.key = .ref q ∧ H q = some (.tup (k.map kV)) := by
  obtain ⟨hd, z, hs, xs, pr, o', es, ep, ho, hx, hdt, he, _⟩ := I.hok d _ h
  rw [hd] at ho
  cases ho
  refine ⟨hs, hd, hx, es, ep, hdt, ?_, fun i k v e => ?_⟩
  · have l1 : es.size = xs.length := size_of_entries he
    have l2 : kvs.length = xs.length := Paired.length pr
    omega
  · obtain ⟨b, hb, e1, e2, _⟩ := paired_get pr e
    have q := entry_at he i
    rw [hb] at q
    exact ⟨_, b.2.1, q, rfl, e2⟩
end
/-- the keys of the locked dict at d, in their order -/
def Itk (d : Addr) (o : Obj) (kvs : List (Key × V)) : It :=
  ⟨fun i H => H d = some (.frz o (.dK kvs)) ∧ i < kvs.length, fun i H x H' => H' = H ∧ ∃ k v, kvs[i]? = some (k, v) ∧ x = kV k, fun i H => H d = some (.frz o (.dK kvs)) ∧ kvs.length ≤ i⟩
/-- .. of tuple keys: the key's own tuple -/
def Itkt (d : Addr) (o : Obj) (kvs : List (List Key × V)) : It :=
  ⟨fun i H => H d = some (.frz o (.dT kvs)) ∧ i < kvs.length, fun i H x H' => H' = H ∧ ∃ (k : List Key) (v : V) (q : Addr), kvs[i]? = some (k, v) ∧ x = .ref q ∧ H q = some (.tup (k.map kV)), fun i H => H d = some (.frz o (.dT kvs)) ∧ kvs.length ≤ i⟩
theorem dict_ep {o : Obj} {es es' : Array DictEntry} {ep ep' : Nat} (h : o.data = .dict es ep) (h' : o.data = .dict es' ep') : es' = es ∧ ep' = ep := by
  rw [h] at h'
  cases h'
  exact ⟨rfl, rfl⟩
section
variable {P : Program} {w : World} {K : PySem.W.Frag} {tg : Expr} {d : Addr} {o : Obj} {es : Array DictEntry} {ep : Nat}
theorem turn_keys {kvs : List (Key × V)} (it : Addr) (hod : o.data = .dict es ep) : Turn P w K tg (Itk d o kvs) [it] it (fun i h => h.IsKeyIter it d i kvs.length ep) where
  mem := by simp
  obj := fun i h st b hb => by
    have e : b = it := by simpa using hb
    subst e
    obtain ⟨oi, e, c, dd⟩ := st
    exact ⟨oi, e, fun v z => by rw [dd] at z; cases z⟩
  keep := fun i h h' st k => st.at fun oi e => k it (by simp) oi e
  item := by
    intro X hP hw hK hc i pins s σ H E I hf st hg
    subst hP hw hK
    obtain ⟨hd, hi⟩ := hg
    obtain ⟨f0, f1, f2, f3, f4, f5⟩ := hf it (by simp)
    obtain ⟨hs, hgd, hx, es', ep', vs, hdt, hsz, kv, hm⟩ := I.frzK hd
    obtain ⟨rfl, rfl⟩ := dict_ep hod hdt
    obtain ⟨⟨k, v⟩, hkv⟩ : ∃ p, kvs[i]? = some p := ⟨kvs[i], List.getElem?_eq_getElem hi⟩
    obtain ⟨u, hu, ru⟩ := kv_get kv hkv
    have hl : kvs.length = vs.length := Paired.length kv
    rw [hl] at st
    refine wpAny_pyNext_dict_item st hm hu fun key h' hkey st' sb => ?_
    have I1 : Inv X pins σ H { s with heap := h' } := I.turned (t' := s.toks) (fun b ob hb e => (sb.2 b hb).trans e) f0 f1 f3 f4 f5
    obtain ⟨oi, e, c, dd⟩ := id st'
    refine ⟨key, rfl, go_of (s := { s with heap := h' }) e c dd (by decide) ⟨kV k, H, I1, relV_key (show keyIs k key = true from hkey), ⟨rfl, k, v, hkv, rfl⟩, ?_, fun b hb => (hf b hb).1⟩⟩
    show h'.IsKeyIter it d (i + 1) kvs.length _
    rw [hl]
    exact st'
  done := by
    intro X hP hw hK hc i pins s σ H E I hf st hg
    subst hP hw hK
    obtain ⟨hd, hi⟩ := hg
    obtain ⟨f0, f1, f2, f3, f4, f5⟩ := hf it (by simp)
    obtain ⟨hs, hgd, hx, es', ep', vs, hdt, hsz, kv, hm⟩ := I.frzK hd
    obtain ⟨rfl, rfl⟩ := dict_ep hod hdt
    exact next_key_end (I.ok.hd hc) st hgd hdt hsz hi fun h' eb => ⟨rfl, I.turned (t' := s.toks) (fun b ob hb e => eb b ob hb e) f0 f1 f3 f4 f5⟩
  self := fun A i s Q E st h => wpAny_pyIter_keyiter st h
theorem turn_keysT {kvs : List (List Key × V)} (it : Addr) (hod : o.data = .dict es ep) : Turn P w K tg (Itkt d o kvs) [it] it (fun i h => h.IsKeyIter it d i kvs.length ep) where
  mem := by simp
  obj := fun i h st b hb => by
    have e : b = it := by simpa using hb
    subst e
    obtain ⟨oi, e, c, dd⟩ := st
    exact ⟨oi, e, fun v z => by rw [dd] at z; cases z⟩
  keep := fun i h h' st k => st.at fun oi e => k it (by simp) oi e
  item := by
    intro X hP hw hK hc i pins s σ H E I hf st hg
    subst hP hw hK
    obtain ⟨hd, hi⟩ := hg
    obtain ⟨f0, f1, f2, f3, f4, f5⟩ := hf it (by simp)
    obtain ⟨hs, hgd, hx, es', ep', hdt, hsz, ent⟩ := I.frzT hd
    obtain ⟨rfl, rfl⟩ := dict_ep hod hdt
    obtain ⟨⟨k, v⟩, hkv⟩ : ∃ p, kvs[i]? = some p := ⟨kvs[i], List.getElem?_eq_getElem hi⟩
    obtain ⟨en, q, hen, hkey, hq⟩ := ent i k v hkv
    refine next_key_item st hgd hdt hsz hen fun h' st' sb => ?_
    have I1 : Inv X pins σ H { s with heap := h' } := I.turned (t' := s.toks) (fun b ob hb e => (sb.2 b hb).trans e) f0 f1 f3 f4 f5
    obtain ⟨oi, e, c, dd⟩ := id st'
    exact ⟨en.key, rfl, go_of (s := { s with heap := h' }) e c dd (by decide) ⟨.ref q, H, I1, hkey, ⟨rfl, k, v, q, hkv, rfl, hq⟩, st', fun b hb => (hf b hb).1⟩⟩
  done := by
    intro X hP hw hK hc i pins s σ H E I hf st hg
    subst hP hw hK
    obtain ⟨hd, hi⟩ := hg
    obtain ⟨f0, f1, f2, f3, f4, f5⟩ := hf it (by simp)
    obtain ⟨hs, hgd, hx, es', ep', hdt, hsz, ent⟩ := I.frzT hd
    obtain ⟨rfl, rfl⟩ := dict_ep hod hdt
    exact next_key_end (I.ok.hd hc) st hgd hdt hsz hi fun h' eb => ⟨rfl, I.turned (t' := s.toks) (fun b ob hb e => eb b ob hb e) f0 f1 f3 f4 f5⟩
  self := fun A i s Q E st h => by
    refine wpAny_pyIter_slot st.typeIs F.slot_dict_keyiterator_iter (wpAny_call_entry F.slot_dict_keyiterator_iter st.typeIs F.entry_dict_keyiterator_iter ?_ (F.args_dict_keyiterator_iter_1 _))
    show wpAny _ _ (ret (.ref it)) _ _ s
    exact wpAny_pure ⟨_, rfl, "dict_keyiterator", _, st.typeIs, F.slot_dict_keyiterator_next.lookup, h⟩
end
/-! ### for k in d, d.keys(), d.values(), d.items() -/
/-- the dict is locked (tLock, or by the caller) -/
def iKeys (td : TE) : TI := fun σ H R => td σ H fun x H1 => ∃ d o, x = .ref d ∧ ((∃ kvs, H1 d = some (.frz o (.dK kvs)) ∧ R (Itk d o kvs) H1) ∨ ∃ kvs, H1 d = some (.frz o (.dT kvs)) ∧ R (Itkt d o kvs) H1)
section
variable {X : Cx} {tg e : Expr} {td : TE} {apos cpos : Pos}
theorem pi_keys (he : PE X e td) : PI X tg e (iKeys td) := by
  intro pins s σ H R I h
  refine thn (he pins s σ H _ I h) fun u s1 ⟨x, H1, I1, rx, d, o, ex, q⟩ => ?_
  subst ex
  obtain rfl : u = Value.ref d := rx
  rcases q with ⟨kvs, hd, q⟩ | ⟨kvs, hd, q⟩
  · obtain ⟨hs, hgd, hx, es, ep, vs, hdt, hsz, kv, hm⟩ := I1.frzK hd
    refine iter_keys hs hgd hx hdt (pi_one (tk := s1.toks) I1 _ (turn_keys _ hdt) ⟨_, Heap.get?_push_size _ rfl, rfl, ?_⟩ q)
    rw [hsz] <;> rfl
  · obtain ⟨hs, hgd, hx, es, ep, hdt, hsz, ent⟩ := I1.frzT hd
    refine iter_keys hs hgd hx hdt (pi_one (tk := s1.toks) I1 _ (turn_keysT _ hdt) ⟨_, Heap.get?_push_size _ rfl, rfl, ?_⟩ q)
    rw [hsz] <;> rfl
end
/-! ### enumerate(list) -/
/-! ### zip(list, list) -/
end L2
section 
namespace Bits
open PySem PyProof.Rows
theorem nat_xor_add_and (m : Nat) : ∀ n : Nat, (m ^^^ n) + 2 * (m &&& n) = m + n := by
  induction m using Nat.strongRecOn with
  | _ m ih =>
    intro n
    by_cases h0 : m = 0
    · subst h0
      simp
    · have ih' := ih (m / 2) (by omega) (n / 2)
      rw [← Nat.xor_div_two, ← Nat.and_div_two] at ih'
      have o1 := @Nat.xor_mod_two_eq_one m n
      have a1 := @Nat.and_mod_two_eq_one m n
      omega
theorem bitXor_pp {x y : Int} (hx : 0 ≤ x) (hy : 0 ≤ y) : Builtin.bitXor x y = ((x.toNat ^^^ y.toNat : Nat) : Int) := by
  have e := nat_xor_add_and x.toNat y.toNat
  rw [bitXor_and, bitAnd_pp hx hy]
  omega
end Bits
end 
section 
namespace TL
open PySem PySem.Builtin PySem.Builtin.Str PySem.StrLaws
/-! ### the list functions -/
/-! ### the model's split and partition are these -/
/-! ### computing spl and par -/
/-! ### digits -/
/-! ### words: x.split() -/
end TL
end 
namespace L2
open PySem PySem.Spec PyProof.Rows
section
variable {X : Cx} {pins : List (Addr × Obj)} {σ : St} {H : Hp} {s : Shared} {Q : VK}
end
section
variable {X : Cx}
/-! ### of a text alone -/
/-! ### of a text and a text -/
end
section
variable {X : Cx} {o e : Expr} {to te : TE}
end
end L2
namespace L2
open PySem PySem.Spec PyProof.Rows
section
variable {X : Cx}
end
/-! ### slices of a text -/
end L2
namespace Att
open PySem PySem.W PySem.Calls PyProof.Rows
/-! ### the script -/
/-! ### the attachment: holds_open's last premise (the goal 'hc' behind k_head) from a wpAny of the law's body -/
/-! ### rules over ANY heap (no ledger) from facts about the written part K: the library's own take a ledger (News) for what they write -/
section
variable {prog : Program} {w : World} {A : Around} {E : Value → Shared → Prop} {s : Shared} {K : Frag}
/-! the whole heap as the ledger: makes every rule that writes through a ledger a rule over any heap -/
end
end Att
namespace L2
open PySem PySem.Spec PyProof.Rows
theorem vals_ints : ∀ {vs : List Value} {ns : List Int}, IntsAre vs ns → Vals (ns.map V.int) vs
  | _, _, .nil => .nil
  | _, _, .cons n t h => .cons ⟨t, rfl⟩ (vals_ints h)
/-- nothing is tracked but the script, known to the object (or it is an object of the module) -/
def Only (H : Hp) : Prop := ∀ b, H b = none ∨ ∃ o xs, H b = some (.frz o (.lst xs))
/-- THE HEAD: the law's promise, at the heap behind the top. F, the promise of the law's def, may use that base is part of the heap (so K.In base, base.Ns mainGlobals mg stand in Mod) -/
theorem law_call {P : Program} {w : World} {K : PySem.W.Frag} {mg mb : Str → Option Value} {CX : CXT} {k : Nat} {fa a : Addr} {fd : FuncData} {x : Str} {sp : Sp} {s₁ : Shared} {vs : List Value} {ns : List Int}
    (KX : K.In s₁.heap) (hns : s₁.heap.Ns mainGlobals mg) (hb : s₁.heap.Ns builtinsNs mb) (hbb : ∀ x : Str, x ≠ "__name__" → mb x = bootBuiltins x) (hlim : s₁.heap.NoLimit) (hg : s₁.gens = #[])
    (ha : s₁.heap.get? a = some { cls := .type "list", data := .seq vs.toArray }) (hi : IntsAre vs ns) (hl : ns.length ≤ sizeLine) (hr : Room k callerA)
    (F : ∀ base : Heap, K.In base → base.Ns mainGlobals mg → FnOk P w K mg base CX k fa fd [x] sp) (hbind : ∀ (s : Shared) (u : Value), BindsTo s fd ⟨[u], []⟩ [(x, u)])
    (hsp : ∀ H : Hp, Only H → SqL K H a (ns.map V.int) → sp [.ref a] H (fun v _ => v = .bl true) fun _ _ _ => False)
    (hCX : ∀ H e s', CX [] H s₁ (fun _ _ _ => False) e s' → False) :
    codeAny (model P w) callerA (.call (.ref fa) ⟨[.ref a], []⟩) (fun r s' => r = .ok (.ret (.bool true)) ∧ OldK s₁.heap s'.heap ∧ s'.os = s₁.os ∧ AllBare s'.gens) s₁ := by
  have rv := vals_ints hi
  have lenV := hi.length
  -- from an abstract heap in which nothing but the script may be tracked
  have core : ∀ H : Hp, Only H → SqL K H a (ns.map V.int) → HOk P w H s₁.heap → (∀ b, H b ≠ none → b = a) → (H a ≠ none → K.lookup a = none) →
      codeAny (model P w) callerA (.call (.ref fa) ⟨[.ref a], []⟩) (fun r s' => r = .ok (.ret (.bool true)) ∧ OldK s₁.heap s'.heap ∧ s'.os = s₁.os ∧ AllBare s'.gens) s₁ := by
    intro H hO hS hok hA hK
    have base_of : ∀ {b : Addr} {o : Obj}, s₁.heap.get? b = some o → H b = none → (hidT s₁.heap H).get? b = some o := fun e n => hidT_get e n
    have noA : ∀ {b : Addr} {o : Obj} {es : Array DictEntry} {ep : Nat}, s₁.heap.get? b = some o → o.data = .dict es ep → H b = none := fun {b o es ep} e d => by
      cases q : H b with
      | none => rfl
      | some u =>
        have e' : b = a := hA b (by rw [q]; simp)
        subst e'
        rw [ha] at e; cases e
        have d' : Data.seq vs.toArray _ = Data.dict es ep := d
        cases d'
    have nsK : ∀ {b : Addr} {m : Str → Option Value}, s₁.heap.Ns b m → (hidT s₁.heap H).Ns b m := fun {b m} ⟨o, es, ep, e, d, r⟩ => ⟨o, es, ep, base_of e (noA e d), d, r⟩
    have hKb : K.In (hidT s₁.heap H) := fun b o e => base_of (KX b o e) (by
      cases q : H b with
      | none => rfl
      | some u =>
        have e' : b = a := hA b (by rw [q]; simp)
        subst e'
        rw [hK (by rw [q]; simp)] at e; cases e)
    have hM : Mod K mg (hidT s₁.heap H) := ⟨hKb, nsK hns, ⟨mb, nsK hb, hbb⟩, let ⟨mc, h1, h2⟩ := hlim; ⟨mc, nsK h1, h2⟩⟩
    have e0 : Env0 P w K mg (hidT s₁.heap H) callerA [] s₁ H := ⟨rfl, hM, fun b o e => of_hidT e, Nat.le_of_eq (hidT_size _ _), trivial, fun b hb => absurd (show b ∈ ([] : List Addr) from hb) (by simp), hok, .of_eq hg⟩
    refine codeAny_mono ((F _ hKb (nsK hns)).run callerA [] s₁ H ⟨[.ref a], []⟩ [.ref a] [.ref a] _ _ hr e0 (hbind s₁ (.ref a)) (.cons rfl .nil) (hsp H hO hS)) fun r s' h => ?_
    cases r with
    | error e => exact (hCX H e s' h).elim
    | ok fl =>
      cases fl with
      | next => exact False.elim h
      | brk => exact False.elim h
      | cont => exact False.elim h
      | ret u =>
        obtain ⟨v, H', os, bare, un, hok', r', q⟩ := h
        have q' : v = .bl true := q
        subst q'
        obtain rfl : u = Value.bool true := r'
        refine ⟨rfl, OldK.of_keep fun b o e => ?_, os, bare⟩
        cases q : H b with
        | none => exact un.keep b o e q (by intro z; exact absurd (show b ∈ ([] : List Addr) from z) (by simp)) (by simp)
        | some u =>
          rcases hO b with z | ⟨ob, xs, z⟩
          · rw [q] at z; cases z
          · have z2 := un.frzs b ob _ z
            obtain ⟨e1, _⟩ := hok b _ z
            obtain ⟨e2, _⟩ := hok' b _ z2
            rw [e] at e1; cases e1
            exact e2
  cases hk : K.lookup a with
  | some o =>
    -- the script is one of the module's own objects
    have e := KX a o hk
    rw [ha] at e
    cases e
    refine core (fun _ => none) (fun _ => .inl rfl) (.inr ⟨_, vs.toArray, _, hk, rfl, rfl, rfl, by rw [List.size_toArray, lenV]; exact hl, by simpa using rv⟩) (fun b u z => by have z' : (none : Option HO) = some u := z; cases z') (fun b z => absurd rfl z) fun z => absurd rfl z
  | none =>
    refine core (fun b => if b = a then some (.frz { cls := .type "list", data := .seq vs.toArray } (.lst (ns.map V.int))) else none) (fun b => ?_) (.inl (.inr ⟨{ cls := .type "list", data := .seq vs.toArray }, if_pos rfl⟩)) (fun b u z => ?_) (fun b z => ?_) fun _ => hk
    · by_cases hb : b = a
      · exact .inr ⟨_, _, if_pos hb⟩
      · exact .inl (if_neg hb)
    · by_cases hb : b = a
      · have z' := (if_pos hb).symm.trans z
        cases z'
        subst hb
        exact ⟨ha, by rw [List.length_map]; exact hl, vs, _, rv, ha⟩
      · have z' := (if_neg hb).symm.trans z
        cases z'
    · by_cases hb : b = a
      · exact hb
      · exact absurd (if_neg hb) z
end L2
namespace L2
open PySem PySem.Spec PyProof.Rows
end L2
/- THE LAST THEOREM (shape; LID, My.* are yours):
   My.Adr: a structure of the addresses that your layer names (classes, functions); My.Txt K t: a structure (Prop) of the equations over K;
   My.txt_mk : {K} {implicit addresses ..} (e1 : nsIn K mainGlobals "law" = some (some (.ref f))) (e2 : K.lookup f = some ⟨oc, od, .func (fnOf "law" "law" params body scope dV kV doc pm an cdv ct), sl⟩) (e3 : codeIn K cdv "law" = true) .. : ∃ t, My.Txt K t
(the tactic k_is has no namespace: write k_is) -/
/-! SHORT WORDS over the layer: a def of the text, its body, what a loop and a test want. -/
namespace L2
open PySem PySem.Spec PyProof.Rows
/-! ### the text by places -/
/-- the j-th statement of a class's body -/
def inClass (s : Stmt) (j : Nat) : Stmt := match s with
  | .ClassDef _ _ _ body _ _ _ _ _ _ _ => body.getD j (.Pass ⟨0, 0, 0, 0⟩)
  | _ => .Pass ⟨0, 0, 0, 0⟩
def defArgs (s : Stmt) : Arguments := match s with
  | .FunctionDef _ a _ _ _ _ _ _ _ _ => a
  | _ => { posonlyargs := [], args := [], vararg := none, kwonlyargs := [], kw_defaults := [], kwarg := none, defaults := [] }
def defBody (s : Stmt) : List Stmt := match s with
  | .FunctionDef _ _ b _ _ _ _ _ _ _ => b
  | _ => []
def defScope (s : Stmt) : Scope := match s with
  | .FunctionDef _ _ _ _ _ _ sc _ _ _ => sc
  | _ => { kind := .function, names := [], isGenerator := false, isCoroutine := false }
/-! ### no exception leaves a def -/
abbrev CX0 : CXT := fun _ _ _ _ _ _ => False
abbrev E0 : XK := fun _ _ _ => False
theorem pass0 {X : Cx} : Passes CX0 X E0 := fun _ _ _ _ _ _ _ h => h.elim
/-! ### a def (or method) of the text as it stands behind the top -/
structure Fun (K : PySem.W.Frag) (x qual : Str) (st : Stmt) (f : Addr) (fd : FuncData) : Prop where
  ex : ∃ (oc : Value) (od : Option Addr) (kV doc pm : Value) (an : Option Addr) (cdv ct : Value) (osl : Array (Option Value)),
    fd = PySem.W.fnOf x qual (defArgs st) (defBody st) (defScope st) .none kV doc pm an cdv ct ∧ K.lookup f = some ⟨oc, od, .func fd, osl⟩ ∧ PySem.W.codeIn K cdv qual = true
  kp : PySem.W.keepIn K (.ref f) = true
section
variable {P : Program} {w : World} {K : PySem.W.Frag} {mg : Str → Option Value} {base : Heap}
/-- THE RULE for a def: its body as a term of rules, and the reading of that term -/
theorem Fun.ok {x qual : Str} {st : Stmt} {f : Addr} {fd : FuncData} {N ps : List Str} {k : Nat} {sp : Sp} (F : Fun K x qual st f fd) (S : FnScope N ps (defScope st)) (len : ∀ vs H Q E, sp vs H Q E → vs.length = ps.length)
    (hbody : ∀ (cdv : Value) (A : Around) (outer : List Env) (s : Shared) (H : Hp) (vs : List V) (Q : VK) (E : XK), Room k (A.deeper (envOfC qual (defScope st) s.heap.objs.size f cdv)) → sp vs H Q E →
      ∃ t, PSs (cxOf CX0 P w K mg base N qual (defScope st) f cdv A outer s H E).nox (defBody st) t ∧ t { nx := fun _ H' => Q .non H', rt := Q } (start N vs) H) : FnOk P w K mg base CX0 (k + 1) f fd ps sp := by
  obtain ⟨oc, od, kV, doc, pm, an, cdv, ct, osl, rfl, lk, hcd⟩ := F.ex
  refine fn_of lk hcd S len fun A outer s H vs Q E hr hsp => ?_
  obtain ⟨t, h, q⟩ := hbody cdv A outer s H vs Q E hr hsp
  exact ⟨t, h.nox, q⟩
/-- how its arguments bind (no defaults): h is «fun _ _ _ _ _ _ us hl => match us, hl with | [_, _], _ => rfl», one _ a parameter -/
theorem Fun.binds {x qual : Str} {st : Stmt} {f : Addr} {fd : FuncData} {ps : List Str} (F : Fun K x qual st f fd)
    (h : ∀ (kV doc pm : Value) (an : Option Addr) (cdv ct : Value) (us : List Value), us.length = ps.length → bindArgs (PySem.W.fnOf x qual (defArgs st) (defBody st) (defScope st) .none kV doc pm an cdv ct) ⟨us, []⟩ = pure (ps.zip us)) : Binds K fd ps [] := by
  obtain ⟨oc, od, kV, doc, pm, an, cdv, ct, osl, rfl, lk, hcd⟩ := F.ex
  exact .all (h kV doc pm an cdv ct)
theorem fun_mk {x qual : Str} {st : Stmt} {f : Addr} {oc : Value} {od an : Option Addr} {osl : Array (Option Value)} {kV doc pm cdv ct : Value} (l : K.lookup f = some ⟨oc, od, .func (PySem.W.fnOf x qual (defArgs st) (defBody st) (defScope st) .none kV doc pm an cdv ct), osl⟩)
    (c : PySem.W.codeIn K cdv qual = true) (k : PySem.W.keepIn K (.ref f) = true) : Fun K x qual st f (PySem.W.fnOf x qual (defArgs st) (defBody st) (defScope st) .none kV doc pm an cdv ct) := ⟨⟨oc, od, kV, doc, pm, an, cdv, ct, osl, rfl, l, c⟩, k⟩
end
theorem hu_of {A : Around} {k : Nat} (hr : Room k A) : A.units + 1 < cLine := Nat.lt_of_le_of_lt (Nat.add_le_add_left (by decide : 1 ≤ 64) _) hr.units
/-! ### expressions in short: the name that stands in the i-th slot -/
section
variable {X : Cx}
theorem pv (i : Nat) {x : Str} {pos : Pos} (hN : X.N[i]? = some x := by rfl) (hv : Vis X.env.scope x := by first | exact Or.inl rfl | exact Or.inr (Or.inl rfl) | exact Or.inr (Or.inr rfl)) (hd : (x == ("__debug__" : Str)) = false := by decide)
    (hcd : (x == ("__classdict__" : Str)) = false := by decide) : PE X (.Name x pos) (tVar i) := pe_var hN hv hd hcd
/-- len of a dict -/
theorem call_lenD : CallR X (.builtin "len") (fun xs H Q => ∃ a kvs, xs = [V.ref a] ∧ H a = some (.dK kvs) ∧ Q (.int kvs.length) H) := by
  intro pins s σ H xs us Q I r h
  obtain ⟨a, kvs, rfl, ha, q⟩ := h
  obtain ⟨u, rfl, ru⟩ := vals1 r
  cases ru
  exact d_len I (.inl ha) fun t s' I' => ⟨.int kvs.length, H, I', ⟨t, rfl⟩, q⟩
end
/-! ### tests -/
theorem iteF {A B : Prop} (h : B) : if false = true then A else B := by
  rw [if_neg Bool.false_ne_true]
  exact h
theorem iteT {A B : Prop} (h : A) : if true = true then A else B := by
  rw [if_pos rfl]
  exact h
/-! ### heaps -/
/-- all that was tracked is as it was -/
def Same (H H' : Hp) : Prop := ∀ b o, H b = some o → H' b = some o
theorem Same.refl (H : Hp) : Same H H := fun _ _ h => h
theorem Same.trans {H H1 H2 : Hp} (a : Same H H1) (b : Same H1 H2) : Same H H2 := fun c o h => b c o (a c o h)
theorem Same.free {H H' : Hp} (e : Same H H') {l : Addr} (h : H' l = Option.none) : H l = Option.none := by
  cases q : H l with
  | none => rfl
  | some o =>
    rw [e l o q] at h
    cases h
theorem Same.seq {K : PySem.W.Frag} {H H' : Hp} {a : Addr} {xs : List V} (e : Same H H') (h : SqL K H a xs) : SqL K H' a xs := by
  rcases h with (h | ⟨o, h⟩) | h
  · exact .inl (.inl (e _ _ h))
  · exact .inl (.inr ⟨o, e _ _ h⟩)
  · exact .inr h
/-! ### a dict's pairs: keys that differ -/
section
variable {κ : Type} [DecidableEq κ]
end
/-! ### lists -/
/-- a new instance and its __init__ leave all that was tracked as it was -/
theorem Same.made {H H1 : Hp} {x dx C : Addr} (nx : H x = Option.none) (nd : H dx = Option.none) (k : ∀ b o, (upd (upd H dx (.own x)) x (.ins C dx [])) b = some o → b ≠ x → H1 b = some o) : Same H H1 := fun b o e =>
  k b o (by rw [upd_ne (ne_of_none e nx), upd_ne (ne_of_none e nd)]; exact e) (ne_of_none e nx)
end L2
end
section
set_option Elab.async false
set_option linter.all false
set_option maxRecDepth 100000
set_option maxHeartbeats 2000000
namespace L2
open PySem PySem.Spec PyProof.Rows
open PySem.W (WData Codec OpenSpec Well WellAll ReadsW ReadsAllW)
/-! ### an answer as data -/
mutual
/-- x stands for the datum d, lists and tuples all the way -/
inductive Dw (K : PySem.W.Frag) (H : Hp) : V → WData → Prop
  | non : Dw K H .non .none
  | bl (b : Bool) : Dw K H (.bl b) (.bool b)
  | int (i : Int) : Dw K H (.int i) (.int i)
  | str (x : Str) : Dw K H (.str x) (.str x)
  | byt (b : Array UInt8) : Dw K H (.byt b) (.bytes b.toList)
  | lst {a : Addr} {xs : List V} {ds : List WData} : SqL K H a xs → DwAll K H xs ds → Dw K H (.ref a) (.list ds)
  | tup {a : Addr} {xs : List V} {ds : List WData} : SqT K H a xs → DwAll K H xs ds → Dw K H (.ref a) (.tuple ds)
inductive DwAll (K : PySem.W.Frag) (H : Hp) : List V → List WData → Prop
  | nil : DwAll K H [] []
  | cons {v : V} {vs : List V} {d : WData} {ds : List WData} : Dw K H v d → DwAll K H vs ds → DwAll K H (v :: vs) (d :: ds)
end
theorem dw_ints {K : PySem.W.Frag} {H : Hp} : ∀ ns : List Int, DwAll K H (ns.map V.int) (ns.map WData.int)
  | [] => .nil
  | n :: r => .cons (.int n) (dw_ints r)
theorem ints_dw {K : PySem.W.Frag} {H : Hp} : ∀ (ns : List Int) (xs : List V), DwAll K H xs (ns.map WData.int) → xs = ns.map V.int
  | [], xs, h => by
    cases h
    rfl
  | n :: r, xs, h => by
    cases h with
    | cons h1 h2 =>
      cases h1
      rw [ints_dw r _ h2] <;> rfl
section
variable {P : Program} {w : World} {K : PySem.W.Frag} {H : Hp} {h : Heap} {R : PySem.W.WRecords} {cl : Str → Option Addr}
theorem sqL_at {a : Addr} {xs : List V} (hok : HOk P w H h) (KX : K.In h) (q : SqL K H a xs) : ∃ (its : List Value) (o : Obj) (n : Nat), Vals xs its ∧ h.get? a = some o ∧ o.cls = .type "list" ∧ o.data = .seq its.toArray n := by
  rcases q with q | ⟨o, its, n, e, hc, _, hd, _, hv⟩
  · obtain ⟨_, its, n, hv, e⟩ := (show ObjOk P w H h a (.lst xs) from q.ok hok)
    exact ⟨its, _, n, hv, e, rfl, rfl⟩
  · exact ⟨its.toList, o, n, hv, KX _ _ e, hc, by simp [hd]⟩
theorem sqT_at {a : Addr} {xs : List V} (hok : HOk P w H h) (KX : K.In h) (q : SqT K H a xs) : ∃ (its : List Value) (o : Obj) (n : Nat), Vals xs its ∧ h.get? a = some o ∧ o.cls = .type "tuple" ∧ o.data = .seq its.toArray n := by
  rcases q with q | ⟨o, its, n, e, hc, hd, _, hv⟩
  · obtain ⟨_, its, hv, o, e, hc, n, hd⟩ := (show ObjOk P w H h a (.tup xs) from q.ok hok)
    exact ⟨its, o, n, hv, e, hc, hd⟩
  · exact ⟨its.toList, o, n, hv, KX _ _ e, hc, by simp [hd]⟩
mutual
theorem Dw.reads (hok : HOk P w H h) (KX : K.In h) : ∀ (d : WData) (v : V) (u : Value), Dw K H v d → RelV v u → ∃ as, ReadsW R cl h u d as
  | .none, _, _, x, r => by
    cases x
    cases r
    exact ⟨_, ReadsW.none⟩
  | .bool b, _, _, x, r => by
    cases x
    cases r
    exact ⟨_, ReadsW.bool b⟩
  | .int i, _, _, x, r => by
    cases x
    obtain ⟨t, rfl⟩ := r
    exact ⟨_, ReadsW.int i t⟩
  | .str s, _, _, x, r => by
    cases x
    obtain ⟨t, rfl⟩ := r
    exact ⟨_, ReadsW.str s t⟩
  | .bytes b, _, _, x, r => by
    cases x
    obtain ⟨t, rfl⟩ := r
    exact ⟨_, ReadsW.bytes _ t⟩
  | .list ds, _, _, x, r => by
    cases x with
    | lst hs ha =>
      cases r
      obtain ⟨its, o, n, rv, ho, hc, hd⟩ := sqL_at hok KX hs
      obtain ⟨as, hr⟩ := Dw.readsAll hok KX ds _ its ha rv
      exact ⟨_, ReadsW.list ho hc hd hr⟩
  | .tuple ds, _, _, x, r => by
    cases x with
    | tup hs ha =>
      cases r
      obtain ⟨its, o, n, rv, ho, hc, hd⟩ := sqT_at hok KX hs
      obtain ⟨as, hr⟩ := Dw.readsAll hok KX ds _ its ha rv
      exact ⟨_, ReadsW.tuple ho hc hd hr⟩
  | .float _, _, _, x, _ => by cases x
  | .dict _, _, _, x, _ => by cases x
  | .bytearray _, _, _, x, _ => by cases x
  | .set _, _, _, x, _ => by cases x
  | .frozenset _, _, _, x, _ => by cases x
  | .obj _ _, _, _, x, _ => by cases x
theorem Dw.readsAll (hok : HOk P w H h) (KX : K.In h) : ∀ (ds : List WData) (vs : List V) (us : List Value), DwAll K H vs ds → Vals vs us → ∃ as, ReadsAllW R cl h us ds as
  | [], _, _, x, r => by
    cases x
    cases r
    exact ⟨_, ReadsAllW.nil⟩
  | d :: ds, _, _, x, r => by
    cases x with
    | cons h1 h2 =>
      cases r with
      | cons r1 r2 =>
        obtain ⟨as, q1⟩ := Dw.reads hok KX d _ _ h1 r1
        obtain ⟨bs, q2⟩ := Dw.readsAll hok KX ds _ _ h2 r2
        exact ⟨_, ReadsAllW.cons q1 q2⟩
end
end
/-! ### the arguments -/
mutual
/-- data that a codec tells -/
def plW : WData → Bool
  | .none => true
  | .bool _ => true
  | .int _ => true
  | .str _ => true
  | .bytes _ => true
  | .list xs => plWs xs
  | .tuple xs => plWs xs
  | _ => false
def plWs : List WData → Bool
  | [] => true
  | x :: r => plW x && plWs r
end
theorem plWs_map {α : Type} {f : α → WData} (h : ∀ a, plW (f a) = true) : ∀ l : List α, plWs (l.map f) = true
  | [] => rfl
  | x :: r => by
    show (plW (f x) && plWs (r.map f)) = true
    rw [h x, plWs_map h r] <;> rfl
theorem pl_enc : ∀ (c : Codec) (a : c.denote), plW (c.enc a) = true
  | .unit, _ => rfl
  | .bool, _ => rfl
  | .int _ _, _ => rfl
  | .nat _ _, _ => rfl
  | .u8, _ => rfl
  | .bytes _ _, _ => rfl
  | .text _ _ _ _, _ => rfl
  | .list _ _ c, a => plWs_map (fun x => pl_enc c x) a
  | .pair c d, a => by
    show (plW (c.enc a.1) && (plW (d.enc a.2) && true)) = true
    rw [pl_enc c a.1, pl_enc d a.2] <;> rfl
  | .triple c d e, a => by
    show (plW (c.enc a.1) && (plW (d.enc a.2.1) && (plW (e.enc a.2.2) && true))) = true
    rw [pl_enc c a.1, pl_enc d a.2.1, pl_enc e a.2.2] <;> rfl
  | .option c, none => rfl
  | .option c, some x => pl_enc c x
theorem pl_encAll : ∀ (cs : List Codec) (a : Codec.denoteAll cs), plWs (Codec.encAll cs a) = true
  | [], _ => rfl
  | c :: cs, a => by
    show (plW (c.enc a.1) && plWs (Codec.encAll cs a.2)) = true
    rw [pl_enc c a.1, pl_encAll cs a.2] <;> rfl
theorem weight_mem : ∀ {xs : List WData} {d : WData}, d ∈ xs → d.weight ≤ WData.weightAll xs
  | [], d, h => absurd h (by simp)
  | x :: r, d, h => by
    show d.weight ≤ x.weight + 1 + WData.weightAll r
    rcases List.mem_cons.mp h with e | m
    · rw [e]
      omega
    · have z := weight_mem m
      omega
def toV : Value → V
  | .none => .non
  | .bool b => .bl b
  | .int i _ => .int i
  | .str x _ => .str x
  | .bytes b _ => .byt b
  | .ref a => .ref a
  | _ => .non
/-- a value of the arguments, its objects among A -/
def OkU (A : List Addr) : Value → Prop
  | .none => True
  | .bool _ => True
  | .int _ _ => True
  | .str _ _ => True
  | .bytes _ _ => True
  | .ref a => a ∈ A
  | _ => False
theorem OkU.mono {A B : List Addr} (h : ∀ a ∈ A, a ∈ B) : ∀ {u : Value}, OkU A u → OkU B u := fun {u} x => by
  cases u with
  | ref a => exact h a x
  | none => trivial
  | bool b => trivial
  | int i t => trivial
  | str s t => trivial
  | bytes b t => trivial
  | _ => exact False.elim x
theorem relV_toV {A : List Addr} {u : Value} (x : OkU A u) : RelV (toV u) u := by
  cases u with
  | ref a => rfl
  | none => rfl
  | bool b => rfl
  | int i t => exact ⟨t, rfl⟩
  | str s t => exact ⟨t, rfl⟩
  | bytes b t => exact ⟨t, rfl⟩
  | _ => exact False.elim x
theorem vals_toV {A : List Addr} : ∀ {vs : List Value}, (∀ u ∈ vs, OkU A u) → Vals (vs.map toV) vs
  | [], _ => .nil
  | u :: r, h => .cons (relV_toV (h u (List.mem_cons_self ..))) (vals_toV fun x hx => h x (List.mem_cons_of_mem _ hx))
/-- an object of the arguments -/
def ArgOb (h : Heap) (A : List Addr) (a : Addr) : Prop := ∃ vs : List Value, vs.length ≤ sizeLine ∧ (∀ u ∈ vs, OkU A u) ∧
  (h.get? a = some { cls := .type "list", data := .seq vs.toArray } ∨ h.get? a = some { cls := .type "tuple", data := .seq vs.toArray })
theorem ArgOb.mono {h : Heap} {A B : List Addr} {a : Addr} (k : ∀ a ∈ A, a ∈ B) (x : ArgOb h A a) : ArgOb h B a := by
  obtain ⟨vs, h1, h2, h3⟩ := x
  exact ⟨vs, h1, fun u hu => (h2 u hu).mono k, h3⟩
theorem wellAll_len {P : Params} {h : Heap} : ∀ {vs : List Value} {ds : List WData}, WellAll P h vs ds → vs.length = ds.length
  | _, _, .nil => rfl
  | _, _, .cons _ b => by
    show _ + 1 = _ + 1
    rw [wellAll_len b]
theorem well_list {P : Params} {h : Heap} {v : Value} {ds : List WData} (x : Well P h v (.list ds)) : ∃ (a : Addr) (vs : List Value), v = .ref a ∧ h.get? a = some { cls := .type "list", data := .seq vs.toArray } ∧ WellAll P h vs ds := by
  cases x with
  | list ho hall => exact ⟨_, _, rfl, ho, hall⟩
theorem well_tuple {P : Params} {h : Heap} {v : Value} {ds : List WData} (x : Well P h v (.tuple ds)) : ∃ (a : Addr) (vs : List Value), v = .ref a ∧ h.get? a = some { cls := .type "tuple", data := .seq vs.toArray } ∧ WellAll P h vs ds := by
  cases x with
  | tuple ho hall => exact ⟨_, _, rfl, ho, hall⟩
theorem well_cons {P : Params} {h : Heap} {us : List Value} {d : WData} {ds : List WData} (x : WellAll P h us (d :: ds)) : ∃ (v : Value) (vs : List Value), us = v :: vs ∧ Well P h v d ∧ WellAll P h vs ds := by
  cases x with
  | cons a b => exact ⟨_, _, rfl, a, b⟩
theorem line_of {n : Nat} (h : n ≤ 1048576) : n ≤ sizeLine := Nat.le_trans h (by decide)
section
variable {P : Params} {h : Heap}
mutual
theorem area_one : ∀ (d : WData) (v : Value), Well P h v d → plW d = true → d.weight ≤ 1048576 → ∃ A : List Addr, OkU A v ∧ ∀ a ∈ A, ArgOb h A a
  | .none, _, x, _, _ => by
    cases x
    exact ⟨[], trivial, fun a m => absurd m (by simp)⟩
  | .bool b, _, x, _, _ => by
    cases x
    exact ⟨[], trivial, fun a m => absurd m (by simp)⟩
  | .int i, _, x, _, _ => by
    cases x
    exact ⟨[], trivial, fun a m => absurd m (by simp)⟩
  | .str s, _, x, _, _ => by
    cases x
    exact ⟨[], trivial, fun a m => absurd m (by simp)⟩
  | .bytes b, _, x, _, _ => by
    cases x
    exact ⟨[], trivial, fun a m => absurd m (by simp)⟩
  | .list ds, _, x, p, z => by
    obtain ⟨a, vs, rfl, ho, hall⟩ := well_list x
    have z2 : WData.weightAll ds ≤ 1048576 := z
    obtain ⟨A, h1, h2⟩ := area_all ds _ hall p fun d hd => Nat.le_trans (weight_mem hd) z2
    have k : ∀ b ∈ A, b ∈ a :: A := fun b hb => List.mem_cons_of_mem _ hb
    refine ⟨a :: A, List.mem_cons_self .., fun b hb => ?_⟩
    rcases List.mem_cons.mp hb with e | m
    · rw [e]
      exact ⟨vs, line_of (by rw [wellAll_len hall]; exact Nat.le_trans (PySem.W.length_le_weightAllW ds) z2), fun u hu => (h1 u hu).mono k, .inl ho⟩
    · exact (h2 b m).mono k
  | .tuple ds, _, x, p, z => by
    obtain ⟨a, vs, rfl, ho, hall⟩ := well_tuple x
    have z2 : WData.weightAll ds ≤ 1048576 := z
    obtain ⟨A, h1, h2⟩ := area_all ds _ hall p fun d hd => Nat.le_trans (weight_mem hd) z2
    have k : ∀ b ∈ A, b ∈ a :: A := fun b hb => List.mem_cons_of_mem _ hb
    refine ⟨a :: A, List.mem_cons_self .., fun b hb => ?_⟩
    rcases List.mem_cons.mp hb with e | m
    · rw [e]
      exact ⟨vs, line_of (by rw [wellAll_len hall]; exact Nat.le_trans (PySem.W.length_le_weightAllW ds) z2), fun u hu => (h1 u hu).mono k, .inr ho⟩
    · exact (h2 b m).mono k
  | .float _, _, _, p, _ => Bool.noConfusion (show false = true from p)
  | .dict _, _, _, p, _ => Bool.noConfusion (show false = true from p)
  | .bytearray _, _, _, p, _ => Bool.noConfusion (show false = true from p)
  | .set _, _, _, p, _ => Bool.noConfusion (show false = true from p)
  | .frozenset _, _, _, p, _ => Bool.noConfusion (show false = true from p)
  | .obj _ _, _, _, p, _ => Bool.noConfusion (show false = true from p)
theorem area_all : ∀ (ds : List WData) (vs : List Value), WellAll P h vs ds → plWs ds = true → (∀ d ∈ ds, d.weight ≤ 1048576) → ∃ A : List Addr, (∀ u ∈ vs, OkU A u) ∧ ∀ a ∈ A, ArgOb h A a
  | [], _, x, _, _ => by
    cases x
    exact ⟨[], fun u m => absurd m (by simp), fun a m => absurd m (by simp)⟩
  | d :: ds, _, x, p, z => by
    obtain ⟨v, vs, rfl, x1, x2⟩ := well_cons x
    have q : plW d = true ∧ plWs ds = true := Bool.and_eq_true_iff.mp p
    obtain ⟨A, a1, a2⟩ := area_one d v x1 q.1 (z d (List.mem_cons_self ..))
    obtain ⟨B, b1, b2⟩ := area_all ds vs x2 q.2 fun e he => z e (List.mem_cons_of_mem _ he)
    have kA : ∀ b ∈ A, b ∈ A ++ B := fun b hb => List.mem_append.mpr (.inl hb)
    have kB : ∀ b ∈ B, b ∈ A ++ B := fun b hb => List.mem_append.mpr (.inr hb)
    refine ⟨A ++ B, fun u hu => ?_, fun b hb => ?_⟩
    · rcases List.mem_cons.mp hu with e | m
      · rw [e]
        exact a1.mono kA
      · exact (b1 u m).mono kB
    · rcases List.mem_append.mp hb with m | m
      · exact (a2 b m).mono kA
      · exact (b2 b m).mono kB
end
end
/-- what is tracked of an argument's object -/
def hoOf (o : Obj) : Option HO := match o.data with
  | .seq vs _ => if (o.cls == Value.type "list") = true then some (.frz o (.lst (vs.toList.map toV))) else some (.frz o (.tup (vs.toList.map toV)))
  | _ => none
def argH (K : PySem.W.Frag) (h : Heap) (A : List Addr) : Hp := fun b => if b ∈ A then (if (K.lookup b).isNone = true then (h.get? b).bind hoOf else none) else none
/-- nothing is tracked but what is known to the object -/
def OnlyF (H : Hp) : Prop := ∀ b, H b = none ∨ ∃ o u, H b = some (.frz o u)
theorem hoOf_lst (vs : List Value) : hoOf { cls := .type "list", data := .seq vs.toArray } = some (.frz { cls := .type "list", data := .seq vs.toArray } (.lst (vs.map toV))) := by
  show (if (Value.type "list" == Value.type "list") = true then some (HO.frz { cls := .type "list", data := .seq vs.toArray } (.lst (vs.toArray.toList.map toV))) else some (HO.frz { cls := .type "list", data := .seq vs.toArray } (.tup (vs.toArray.toList.map toV)))) = _
  rw [if_pos (beq_self_eq_true _)]
theorem hoOf_tup (vs : List Value) : hoOf { cls := .type "tuple", data := .seq vs.toArray } = some (.frz { cls := .type "tuple", data := .seq vs.toArray } (.tup (vs.map toV))) := by
  show (if (Value.type "tuple" == Value.type "list") = true then some (HO.frz { cls := .type "tuple", data := .seq vs.toArray } (.lst (vs.toArray.toList.map toV))) else some (HO.frz { cls := .type "tuple", data := .seq vs.toArray } (.tup (vs.toArray.toList.map toV)))) = _
  rw [if_neg (by decide)]
section
variable {P : Program} {w : World} {K : PySem.W.Frag} {h : Heap} {A : List Addr}
theorem argH_at {b : Addr} {o : Obj} (hb : b ∈ A) (hk : K.lookup b = none) (e : h.get? b = some o) : argH K h A b = hoOf o := by
  unfold argH
  rw [if_pos hb, hk, if_pos (show (none : Option Obj).isNone = true from rfl), e] <;> rfl
theorem of_argH {b : Addr} {u : HO} (q : argH K h A b = some u) : b ∈ A ∧ K.lookup b = none := by
  unfold argH at q
  by_cases hb : b ∈ A
  · rw [if_pos hb] at q
    cases hk : K.lookup b with
    | none => exact ⟨hb, rfl⟩
    | some o =>
      rw [hk, if_neg (by simp)] at q
      cases q
  · rw [if_neg hb] at q
    cases q
/-- what stands tracked -/
theorem argH_is (ar : ∀ a ∈ A, ArgOb h A a) {b : Addr} {u : HO} (q : argH K h A b = some u) : K.lookup b = none ∧ ∃ vs : List Value, vs.length ≤ sizeLine ∧ (∀ u ∈ vs, OkU A u) ∧
    ((h.get? b = some { cls := .type "list", data := .seq vs.toArray } ∧ u = .frz { cls := .type "list", data := .seq vs.toArray } (.lst (vs.map toV))) ∨
     (h.get? b = some { cls := .type "tuple", data := .seq vs.toArray } ∧ u = .frz { cls := .type "tuple", data := .seq vs.toArray } (.tup (vs.map toV)))) := by
  obtain ⟨hb, hk⟩ := of_argH q
  obtain ⟨vs, h1, h2, h3⟩ := ar b hb
  refine ⟨hk, vs, h1, h2, ?_⟩
  rcases h3 with e | e
  · rw [argH_at hb hk e, hoOf_lst] at q
    exact .inl ⟨e, (Option.some.inj q).symm⟩
  · rw [argH_at hb hk e, hoOf_tup] at q
    exact .inr ⟨e, (Option.some.inj q).symm⟩
theorem argH_only (ar : ∀ a ∈ A, ArgOb h A a) : OnlyF (argH K h A) := fun b => by
  cases q : argH K h A b with
  | none => exact .inl rfl
  | some u =>
    obtain ⟨_, vs, _, _, ⟨_, e⟩ | ⟨_, e⟩⟩ := argH_is ar q
    · exact .inr ⟨_, _, by rw [e]⟩
    · exact .inr ⟨_, _, by rw [e]⟩
theorem argH_ok (ar : ∀ a ∈ A, ArgOb h A a) : HOk P w (argH K h A) h := fun b u q => by
  obtain ⟨_, vs, h1, h2, ⟨e, rfl⟩ | ⟨e, rfl⟩⟩ := argH_is ar q
  · exact ⟨e, by rw [List.length_map]; exact h1, vs, _, vals_toV h2, e⟩
  · exact ⟨e, by rw [List.length_map]; exact h1, vs, vals_toV h2, _, e, rfl, _, rfl⟩
theorem seq_inj {c c' : Value} {vs us : List Value} (e : (some { cls := c, data := .seq vs.toArray } : Option Obj) = some { cls := c', data := .seq us.toArray }) : c = c' ∧ vs = us := by
  have e1 := Option.some.inj e
  have e2 : c = c' := congrArg Obj.cls e1
  have e3 : Data.seq vs.toArray = Data.seq us.toArray := congrArg Obj.data e1
  injection e3 with e4
  refine ⟨e2, ?_⟩
  have e5 := congrArg Array.toList e4
  simpa using e5
/-- a list argument -/
theorem argL (KX : K.In h) (ar : ∀ a ∈ A, ArgOb h A a) {a : Addr} {vs : List Value} (ha : a ∈ A) (e : h.get? a = some { cls := .type "list", data := .seq vs.toArray }) : (∀ u ∈ vs, OkU A u) ∧ SqL K (argH K h A) a (vs.map toV) := by
  obtain ⟨us, h1, h2, h3⟩ := ar a ha
  have hu : us = vs := by
    rcases h3 with q | q
    · rw [e] at q
      exact (seq_inj q).2.symm
    · rw [e] at q
      exact absurd (Value.type.inj (seq_inj q).1) (by decide)
  subst hu
  refine ⟨h2, ?_⟩
  cases hk : K.lookup a with
  | none => exact .inl (.inr ⟨_, by rw [argH_at ha hk e, hoOf_lst]⟩)
  | some o =>
    have e2 := KX a o hk
    rw [e] at e2
    obtain rfl := Option.some.inj e2
    exact .inr ⟨_, us.toArray, _, hk, rfl, rfl, rfl, by rw [List.size_toArray]; exact h1, by simpa using vals_toV h2⟩
theorem argT (KX : K.In h) (ar : ∀ a ∈ A, ArgOb h A a) {a : Addr} {vs : List Value} (ha : a ∈ A) (e : h.get? a = some { cls := .type "tuple", data := .seq vs.toArray }) : (∀ u ∈ vs, OkU A u) ∧ SqT K (argH K h A) a (vs.map toV) := by
  obtain ⟨us, h1, h2, h3⟩ := ar a ha
  have hu : us = vs := by
    rcases h3 with q | q
    · rw [e] at q
      exact absurd (Value.type.inj (seq_inj q).1) (by decide)
    · rw [e] at q
      exact (seq_inj q).2.symm
  subst hu
  refine ⟨h2, ?_⟩
  cases hk : K.lookup a with
  | none => exact .inl (.inr ⟨_, by rw [argH_at ha hk e, hoOf_tup]⟩)
  | some o =>
    have e2 := KX a o hk
    rw [e] at e2
    obtain rfl := Option.some.inj e2
    exact .inr ⟨_, us.toArray, _, hk, rfl, rfl, by rw [List.size_toArray]; exact h1, by simpa using vals_toV h2⟩
mutual
theorem dw_one {Pm : Params} (KX : K.In h) (ar : ∀ a ∈ A, ArgOb h A a) : ∀ (d : WData) (v : Value), Well Pm h v d → plW d = true → OkU A v → Dw K (argH K h A) (toV v) d
  | .none, _, x, _, _ => by
    cases x
    exact .non
  | .bool b, _, x, _, _ => by
    cases x
    exact .bl b
  | .int i, _, x, _, _ => by
    cases x
    exact .int i
  | .str s, _, x, _, _ => by
    cases x
    exact .str s
  | .bytes b, _, x, _, _ => by
    cases x
    have z := Dw.byt (K := K) (H := argH K h A) b.toArray
    exact z
  | .list ds, _, x, p, hu => by
    obtain ⟨a, vs, rfl, ho, hall⟩ := well_list x
    obtain ⟨h2, hs⟩ := argL KX ar hu ho
    exact .lst hs (dw_all KX ar ds _ hall p h2)
  | .tuple ds, _, x, p, hu => by
    obtain ⟨a, vs, rfl, ho, hall⟩ := well_tuple x
    obtain ⟨h2, hs⟩ := argT KX ar hu ho
    exact .tup hs (dw_all KX ar ds _ hall p h2)
  | .float _, _, _, p, _ => Bool.noConfusion (show false = true from p)
  | .dict _, _, _, p, _ => Bool.noConfusion (show false = true from p)
  | .bytearray _, _, _, p, _ => Bool.noConfusion (show false = true from p)
  | .set _, _, _, p, _ => Bool.noConfusion (show false = true from p)
  | .frozenset _, _, _, p, _ => Bool.noConfusion (show false = true from p)
  | .obj _ _, _, _, p, _ => Bool.noConfusion (show false = true from p)
theorem dw_all {Pm : Params} (KX : K.In h) (ar : ∀ a ∈ A, ArgOb h A a) : ∀ (ds : List WData) (vs : List Value), WellAll Pm h vs ds → plWs ds = true → (∀ u ∈ vs, OkU A u) → DwAll K (argH K h A) (vs.map toV) ds
  | [], _, x, _, _ => by
    cases x
    exact .nil
  | d :: ds, _, x, p, hu => by
    obtain ⟨v, vs, rfl, x1, x2⟩ := well_cons x
    have q : plW d = true ∧ plWs ds = true := Bool.and_eq_true_iff.mp p
    exact .cons (dw_one KX ar d v x1 q.1 (hu _ (List.mem_cons_self ..))) (dw_all KX ar ds vs x2 q.2 fun u m => hu u (List.mem_cons_of_mem _ m))
end
end
/-! ### the call -/
theorem spec_call {P : Program} {w : World} {K : PySem.W.Frag} {mg mb : Str → Option Value} {CX : CXT} {k : Nat} {fa : Addr} {fd : FuncData} {ps : List Str} {sp : Sp} {s₁ : Shared} {vals : List Value} {ds : List WData} {R : PySem.W.WRecords} {cl : Str → Option Addr} {d0 : WData}
    (KX : K.In s₁.heap) (hns : s₁.heap.Ns mainGlobals mg) (hb : s₁.heap.Ns builtinsNs mb) (hbb : ∀ x : Str, x ≠ "__name__" → mb x = bootBuiltins x) (hlim : s₁.heap.NoLimit) (hg : s₁.gens = #[])
    (hwl : WellAll w.params s₁.heap vals ds) (hpl : plWs ds = true) (hwt : ∀ d ∈ ds, d.weight ≤ 1048576) (hr : Room k callerA)
    (F : ∀ base : Heap, K.In base → base.Ns mainGlobals mg → FnOk P w K mg base CX k fa fd ps sp) (hbind : ∀ (s : Shared) (us : List Value), us.length = ps.length → BindsTo s fd ⟨us, []⟩ (ps.zip us)) (hlen : ds.length = ps.length)
    (hsp : ∀ (H : Hp) (xs : List V), OnlyF H → DwAll K H xs ds → sp xs H (fun v H' => Dw K H' v d0) fun _ _ _ => False)
    (hCX : ∀ H e s', CX [] H s₁ (fun _ _ _ => False) e s' → False) :
    codeAny (model P w) callerA (.call (.ref fa) ⟨vals, []⟩) (fun r s' => ∃ u as, r = .ok (.ret u) ∧ ReadsW R cl s'.heap u d0 as ∧ OldK s₁.heap s'.heap ∧ s'.os = s₁.os ∧ AllBare s'.gens) s₁ := by
  obtain ⟨A, ho, ar⟩ := area_all ds vals hwl hpl hwt
  have hO : OnlyF (argH K s₁.heap A) := argH_only ar
  have hok : HOk P w (argH K s₁.heap A) s₁.heap := argH_ok ar
  have hS := dw_all KX ar ds vals hwl hpl ho
  have hV := vals_toV ho
  have hK : ∀ b u, argH K s₁.heap A b = some u → K.lookup b = none := fun b u q => (argH_is ar q).1
  have noA : ∀ {b : Addr} {o : Obj} {es : Array DictEntry} {ep : Nat}, s₁.heap.get? b = some o → o.data = .dict es ep → argH K s₁.heap A b = none := fun {b o es ep} e d => by
    cases q : argH K s₁.heap A b with
    | none => rfl
    | some u =>
      obtain ⟨_, vs, _, _, ⟨e2, _⟩ | ⟨e2, _⟩⟩ := argH_is ar q
      · rw [e2] at e
        cases e
        have d' : Data.seq vs.toArray _ = Data.dict es ep := d
        cases d'
      · rw [e2] at e
        cases e
        have d' : Data.seq vs.toArray _ = Data.dict es ep := d
        cases d'
  generalize argH K s₁.heap A = H at hO hok hS hK noA
  have base_of : ∀ {b : Addr} {o : Obj}, s₁.heap.get? b = some o → H b = none → (hidT s₁.heap H).get? b = some o := fun e n => hidT_get e n
  have nsK : ∀ {b : Addr} {m : Str → Option Value}, s₁.heap.Ns b m → (hidT s₁.heap H).Ns b m := fun {b m} ⟨o, es, ep, e, d, r⟩ => ⟨o, es, ep, base_of e (noA e d), d, r⟩
  have nK : ∀ b o, K.lookup b = some o → H b = none := fun b o e => by
    cases q : H b with
    | none => rfl
    | some u =>
      rw [hK b u q] at e
      cases e
  have hKb : K.In (hidT s₁.heap H) := fun b o e => base_of (KX b o e) (nK b o e)
  have hM : Mod K mg (hidT s₁.heap H) := ⟨hKb, nsK hns, ⟨mb, nsK hb, hbb⟩, let ⟨mc, h1, h2⟩ := hlim; ⟨mc, nsK h1, h2⟩⟩
  have e0 : Env0 P w K mg (hidT s₁.heap H) callerA [] s₁ H := ⟨rfl, hM, fun b o e => of_hidT e, Nat.le_of_eq (hidT_size _ _), trivial, fun b hb => absurd (show b ∈ ([] : List Addr) from hb) (by simp), hok, .of_eq hg⟩
  have hl : vals.length = ps.length := by rw [wellAll_len hwl]; exact hlen
  refine codeAny_mono ((F _ hKb (nsK hns)).run callerA [] s₁ H ⟨vals, []⟩ vals (vals.map toV) _ _ hr e0 (hbind s₁ vals hl) hV (hsp H _ hO hS)) fun r s' x => ?_
  cases r with
  | error e => exact (hCX H e s' x).elim
  | ok fl =>
    cases fl with
    | next => exact False.elim x
    | brk => exact False.elim x
    | cont => exact False.elim x
    | ret u =>
      obtain ⟨v, H', os, bare, un, hok', r', q⟩ := x
      have kept : ∀ b o, s₁.heap.get? b = some o → s'.heap.get? b = some o := fun b o e => by
        cases q2 : H b with
        | none => exact un.keep b o e q2 (by intro z; exact absurd (show b ∈ ([] : List Addr) from z) (by simp)) (by simp)
        | some u2 =>
          rcases hO b with z | ⟨ob, u3, z⟩
          · rw [q2] at z
            cases z
          · have z2 := un.frzs b ob _ z
            obtain ⟨e1, _⟩ := hok b _ z
            obtain ⟨e2, _⟩ := hok' b _ z2
            rw [e] at e1
            cases e1
            exact e2
      have KX' : K.In s'.heap := fun b o e => kept b o (KX b o e)
      obtain ⟨as, hrd⟩ := Dw.reads (R := R) (cl := cl) hok' KX' d0 v u q r'
      exact ⟨u, as, rfl, hrd, OldK.of_keep kept, os, bare⟩
/-! ### the row -/
theorem layable_weight {ds : List WData} (h : WData.layableAll ds = true) : ∀ d ∈ ds, d.weight ≤ 1048576 := fun d hd =>
  (PySem.W.layableW_iff.mp (List.all_eq_true.mp h d hd)).2.2
theorem encAll_len : ∀ (cs : List Codec) (a : Codec.denoteAll cs), (Codec.encAll cs a).length = cs.length
  | [], _ => rfl
  | c :: cs, a => by
    show (Codec.encAll cs a.2).length + 1 = cs.length + 1
    rw [encAll_len cs a.2]
/-- the goal that k_headS leaves (case hc), from the promise of the row's def: whatever the arguments that the codecs let and the row asks for, the def gives what stands for enc (f ..) -/
theorem walk_spec {r : OpenSpec} {k : Nat} {q : Program} {loose : List Str} {XP : (Str → Option Value) → Heap → Prop} {YP : World → Heap → Prop} {d : DefRec} {K : Params → PySem.W.Frag} {CX : World → CXT} {ps : List Str} {sp : World → Sp}
    (hwell : r.wellSaid = true) (hdf : d.params.defaults = []) (hlen : r.args.length = ps.length) (hr : Room k callerA)
    (hY : ∀ (w : World) (h : Heap), YP w h → (K w.params).In h)
    (F : ∀ (w : World) (mg : Str → Option Value) (fa : Addr) (h : Heap), YP w h → (K w.params).In h → h.Ns mainGlobals mg → mg d.name = some (.ref fa) →
      ∃ fd : FuncData, (∀ (s : Shared) (us : List Value), us.length = ps.length → BindsTo s fd ⟨us, []⟩ (ps.zip us)) ∧
        ∀ base : Heap, (K w.params).In base → base.Ns mainGlobals mg → FnOk r.prog w (K w.params) mg base (CX w) k fa fd ps (sp w))
    (hsp : ∀ (w : World) (H : Hp) (xs : List V) (a : Codec.denoteAll r.args), OnlyF H → Codec.withinAll r.args a = true → Codec.app r.args r.asked a = true → DwAll (K w.params) H xs (Codec.encAll r.args a) →
      sp w xs H (fun v H' => Dw (K w.params) H' v (r.ret.enc (Codec.app r.args r.f a))) fun _ _ _ => False)
    (hCX : ∀ (w : World) (H : Hp) (s : Shared) (e : Value) (s' : Shared), CX w [] H s (fun _ _ _ => False) e s' → False) :
    PySem.W.WalkOS q loose XP YP r d [] (fun f vs => PySem.call f vs) := by
  intro w s_0 s₁ mg mb G Y fa o pm cd doc dV kV ho hd hcd hD hmg hg args vals as hpre hlay hrd hwl hlo
  obtain ⟨a, e1, e2⟩ := PySem.W.os_pre_some hpre
  obtain ⟨e3, hwi⟩ := Codec.encAll_of_decAll r.args args a e1
  subst e3
  have KX := hY w _ Y
  obtain ⟨fd, hb, hF⟩ := F w mg fa _ Y KX G.T.g hmg
  refine PySem.W.enter_call (codeAny_mono (spec_call (R := []) (cl := classAt s_0.heap) (d0 := r.ret.enc (Codec.app r.args r.f a)) KX G.T.g G.T.b G.T.builtins G.T.nolimit hg hwl (pl_encAll _ _) (layable_weight hlay) hr hF hb (by rw [encAll_len]; exact hlen)
    (fun H xs hO hS => hsp w H xs a hO hwi e2 hS) fun H e s' => hCX w H s₁ e s') fun r' s' hq => ?_)
  obtain ⟨u, as', rfl, h1, h2, h3, h4⟩ := hq
  exact ⟨.inl ⟨u, _, as', rfl, fun _ => rfl, h1, (OpenSpec.post_iff hwell hwi _ _).mpr rfl, fun z => Bool.noConfusion (show false = true from z)⟩, h2, h3, h4⟩
/-- the same where the promise hangs on the written part alone -/
theorem walk_specK {r : OpenSpec} {k : Nat} {q : Program} {loose : List Str} {XP : (Str → Option Value) → Heap → Prop} {YP : World → Heap → Prop} {d : DefRec} {K : Params → PySem.W.Frag} {CX : CXT} {ps : List Str} {sp : PySem.W.Frag → Sp}
    (hwell : r.wellSaid = true) (hdf : d.params.defaults = []) (hlen : r.args.length = ps.length) (hr : Room k callerA)
    (hY : ∀ (w : World) (h : Heap), YP w h → (K w.params).In h)
    (F : ∀ (w : World) (mg : Str → Option Value) (fa : Addr) (h : Heap), YP w h → (K w.params).In h → h.Ns mainGlobals mg → mg d.name = some (.ref fa) →
      ∃ fd : FuncData, (∀ (s : Shared) (us : List Value), us.length = ps.length → BindsTo s fd ⟨us, []⟩ (ps.zip us)) ∧
        ∀ base : Heap, (K w.params).In base → base.Ns mainGlobals mg → FnOk r.prog w (K w.params) mg base CX k fa fd ps (sp (K w.params)))
    (hsp : ∀ (K : PySem.W.Frag) (H : Hp) (xs : List V) (a : Codec.denoteAll r.args), OnlyF H → Codec.withinAll r.args a = true → Codec.app r.args r.asked a = true → DwAll K H xs (Codec.encAll r.args a) →
      sp K xs H (fun v H' => Dw K H' v (r.ret.enc (Codec.app r.args r.f a))) fun _ _ _ => False)
    (hCX : ∀ (H : Hp) (s : Shared) (e : Value) (s' : Shared), CX [] H s (fun _ _ _ => False) e s' → False) :
    PySem.W.WalkOS q loose XP YP r d [] (fun f vs => PySem.call f vs) :=
  walk_spec (K := K) (CX := fun _ => CX) (sp := fun w => sp (K w.params)) hwell hdf hlen hr hY F (fun w H xs a h1 h2 h3 h4 => hsp (K w.params) H xs a h1 h2 h3 h4) fun _ H s e s' => hCX H s e s'
end L2
-- rests on (row put in by the clerk, for the bench that shows a file only what it spells): KE.SpHead KE.OsShapes
end
set_option Elab.async false
set_option maxRecDepth 100000
set_option maxHeartbeats 4000000
/-! The numbering's defs. -/
namespace Cn
open PySem PySem.Spec PyProof.Rows L2
/-! ### data -/
def nV (l : List Nat) : List V := l.map fun (n : Nat) => V.int (n : Int)
theorem nV_len (l : List Nat) : (nV l).length = l.length := by simp [nV]
theorem nV_app (a b : List Nat) : nV (a ++ b) = nV a ++ nV b := by simp [nV]
theorem nV_get {l : List Nat} {i x : Nat} (h : l[i]? = some x) : (nV l)[i]? = some (V.int (x : Int)) := by
  unfold nV
  rw [List.getElem?_map, h]
  rfl
theorem nV_of {l : List Nat} {i : Nat} {v : V} (h : (nV l)[i]? = some v) : ∃ x : Nat, l[i]? = some x ∧ v = V.int (x : Int) := by
  unfold nV at h
  rw [List.getElem?_map] at h
  cases e : l[i]? with
  | none => rw [e] at h; cases h
  | some x => rw [e] at h; exact ⟨x, rfl, (Option.some.inj h).symm⟩
/-! ### heaps -/
theorem upd_keep {H : Hp} {p q : Addr} {o o' : HO} (h : H q = some o) (hp : H p = none) : upd H p o' q = some o := by
  rw [upd_ne (ne_of_none h hp)]
  exact h
theorem same_new {H H' : Hp} {p : Addr} {o : HO} (h : Same H H') (hp : H' p = none) : Same H (upd H' p o) := fun b u e => upd_keep (h b u e) hp
theorem same_fresh {H H' : Hp} {p : Addr} {o : HO} (h : Same H H') (hp : H p = none) : Same H (upd H' p o) := fun b u e => by
  rw [upd_ne (ne_of_none e hp)]
  exact h b u e
/-- rows of numbers at addresses that were free in H0 -/
abbrev Nls (H0 H : Hp) : List Addr → List (List Nat) → Prop := Paired fun p l => H p = some (.lst (nV l)) ∧ H0 p = none
theorem nls_imp {H0 H H1 H' : Hp} : ∀ {as : List Addr} {ls : List (List Nat)}, Nls H0 H as ls → (∀ p l, H p = some (.lst (nV l)) → H0 p = none → H' p = some (.lst (nV l)) ∧ H1 p = none) → Nls H1 H' as ls
  | _, _, .nil, _ => .nil
  | _, _, .cons h t, k => .cons (k _ _ h.1 h.2) (nls_imp t k)
theorem nls_app {H0 H : Hp} : ∀ {as bs : List Addr} {ls ms : List (List Nat)}, Nls H0 H as ls → Nls H0 H bs ms → Nls H0 H (as ++ bs) (ls ++ ms)
  | _, _, _, _, .nil, s => s
  | _, _, _, _, .cons h t, s => .cons h (nls_app t s)
theorem nls_len {H0 H : Hp} {as : List Addr} {ls : List (List Nat)} (h : Nls H0 H as ls) : as.length = ls.length := Paired.length h
theorem nls_get {H0 H : Hp} : ∀ {as : List Addr} {ls : List (List Nat)} {i : Nat} {p : Addr}, Nls H0 H as ls → as[i]? = some p → ∃ l, ls[i]? = some l ∧ H p = some (.lst (nV l)) ∧ H0 p = none
  | _, _, _, _, .nil, e => by simp at e
  | _, _, 0, _, .cons h _, e => by
    simp at e
    subst e
    exact ⟨_, rfl, h⟩
  | _, _, i + 1, p, .cons _ t, e => by
    obtain ⟨l, h1, h2⟩ := nls_get (i := i) (p := p) t (by simpa using e)
    exact ⟨l, by simpa using h1, h2⟩
theorem nls_at {H0 H : Hp} : ∀ {as : List Addr} {ls : List (List Nat)} {i : Nat} {l : List Nat}, Nls H0 H as ls → ls[i]? = some l → ∃ p, as[i]? = some p ∧ H p = some (.lst (nV l)) ∧ H0 p = none
  | _, _, _, _, .nil, e => by simp at e
  | _, _, 0, _, .cons h _, e => by
    simp at e
    subst e
    exact ⟨_, rfl, h⟩
  | _, _, i + 1, p, .cons _ t, e => by
    obtain ⟨l, h1, h2⟩ := nls_at (i := i) (l := p) t (by simpa using e)
    exact ⟨l, by simpa using h1, h2⟩
/-- a list of rows at a -/
def LL (H0 H : Hp) (a : Addr) (ls : List (List Nat)) : Prop := ∃ as : List Addr, H a = some (.lst (as.map V.ref)) ∧ Nls H0 H as ls
theorem refs_of {as : List Addr} {i : Nat} {v : V} (h : (as.map V.ref)[i]? = some v) : ∃ p, as[i]? = some p ∧ v = V.ref p := by
  rw [List.getElem?_map] at h
  cases e : as[i]? with
  | none => rw [e] at h; cases h
  | some x => rw [e] at h; exact ⟨x, rfl, (Option.some.inj h).symm⟩
/-- a module's number -/
theorem pe_gi {X : Cx} {x : Str} {i : Int} {t : Tok} {pos : Pos} (hg : Gl X x) (hm : X.mg x = some (.int i t)) (hd : (x == ("__debug__" : Str)) = false := by decide) : PE X (.Name x pos) (tC (.int i)) :=
  pe_glob (v := .int i) hg hm ⟨t, rfl⟩ hd
/-! ### the text by places -/
def top (i : Nat) : Stmt := PySem.Challenge.pw_coinrow_s01_answers.main.body.getD i (.Pass ⟨0, 0, 0, 0⟩)
abbrev sWom : Stmt := top 4
abbrev sSets : Stmt := top 5
abbrev sFrom : Stmt := top 6
abbrev sTurns : Stmt := top 7
/-! ### promises -/
def spWom : Sp := fun vs H Q _ => ∃ (a : Addr) (s : List Nat) (n : Nat), vs = [.ref a, .int n] ∧ H a = some (.lst (nV s)) ∧ s.length ≤ 10 ∧ n ≤ 10 ∧ (∀ x ∈ s, x < n) ∧
  ∀ (H' : Hp) (p : Addr), Same H H' → H p = none → LL H H' p (Cm.ext 0 n s) → Q (.ref p) H'
def spSets : Sp := fun vs H Q _ => ∃ (k n : Nat), vs = [.int k, .int n] ∧ k ≤ 10 ∧ n ≤ 10 ∧
  ∀ (H' : Hp) (p : Addr), Same H H' → H p = none → LL H H' p (Cm.setsN n k) → Q (.ref p) H'
section
variable {P : Program} {w : World} {K : PySem.W.Frag} {mg : Str → Option Value} {base : Heap}
theorem scWom : FnScope ["places", "coins", "first", "place"] ["places", "coins"] (defScope sWom) := ⟨rfl, rfl, rfl, by decide +kernel, rfl, by decide +kernel, by decide +kernel⟩
theorem sz10 {n : Nat} (h : n ≤ 2000) : n ≤ sizeLine := Nat.le_trans h (by decide)
theorem sz10' {n : Nat} (h : n ≤ 2000) : n < sizeLine := Nat.lt_of_le_of_lt h (by decide)
theorem ok_wom {f : Addr} {fd : FuncData} (F : Fun K "with_one_more" "with_one_more" sWom f fd) (hrange : mg "range" = none) : FnOk P w K mg base CX0 1 f fd ["places", "coins"] spWom := by
  refine F.ok scWom (fun vs H Q E h => ?_) (fun cdv A outer s H vs Q E hr h => ?_)
  · obtain ⟨a, s, n, rfl, _⟩ := h
    rfl
  · obtain ⟨a, s, n, rfl, ha, hs, hn, hlt, k⟩ := h
    refine ⟨_, pss_cons (ps_set (i := 2) scWom.nd rfl (Or.inl rfl) (pe_ifExp (pt_truth (pv 0) (fun _ => rfl)) (pe_op op_add (pe_ix ix_list (pv 0) (pe_un un_neg pe_int) (fun _ _ => rfl)) pe_int) pe_int))
      (pss_one (ps_ret (pe_lc (own := [("place", 3)]) rfl scWom.nd (pi_range2 rfl hrange (pa_cons (pv 2) (pa_cons (pv 1) pa_nil))) (blkOk_by (by show blkC ["places", "coins", "first", "place"] (defScope sWom) _ [("place", 3)] = true; decide +kernel))
        (fun _ _ _ _ _ => pg_name (i := 3) scWom.nd rfl (Or.inl rfl)) (fun _ _ _ _ _ => pts_nil) (fun _ _ _ _ _ => pe_op op_cat (pv 0) (pe_lst (pa_cons (pv 3) pa_nil)))))), ?_⟩
    have key : ∀ first : Nat, first = Cm.from_ 0 s → tRet (tLc (iRng2 (tCons (tVar 2) (tCons (tVar 1) tNil))) (gName 3) tYes (tOp rCat (tVar 0) (tLst (tCons (tVar 3) tNil))) [3]) { nx := fun _ H' => Q .non H', rt := Q } [some (.ref a), some (.int n), some (.int first), none] H := by
      intro first hf
      have hfn : first ≤ n := hf ▸ Cm.from_le hlt
      refine ⟨_, rfl, _, rfl, _, _, rfl, ⟨by omega, by omega, by omega, by omega⟩, fun D hD => ?_⟩
      refine lc_range (fun i H' => ∃ as, H' D = some (.lst (as.map V.ref)) ∧ Nls (upd H D (.lst [])) H' as ((Cm.ext 0 n s).take i) ∧ Same H H') ⟨[], upd_same, .nil, same_new (Same.refl H) hD⟩ ?_ ?_
      · rintro i H' hi ⟨as, hD', hN, hS⟩
        have hi' : i < n - first := by omega
        refine ⟨rfl, ?_⟩
        refine ⟨_, rfl, _, rfl, (by show 1 ≤ sizeLine; decide), fun p hp => ?_⟩
        have ha' : H' a = some (.lst (nV s)) := hS _ _ ha
        refine ⟨a, p, _, _, rfl, rfl, upd_keep ha' hp, upd_same, (by rw [nV_len]; exact sz10 (by show s.length + 1 ≤ 2000; omega)), fun q hq => ?_⟩
        have hlen := nls_len hN
        have hD1 := upd_keep (o' := HO.lst [V.int ((first : Int) + (i : Int))]) hD' hp
        refine ⟨_, upd_keep hD1 hq, ?_, as ++ [q], ?_, ?_, ?_⟩
        · rw [List.length_map, hlen, List.length_take]
          have := Cm.ext_len n s
          exact sz10' (by omega)
        · rw [upd_same, List.map_append]
          rfl
        · have hge := Cm.ext_get (n := n) (s := s) (i := i) (by omega)
          rw [Cm.take_snoc hge]
          have nq : q ≠ D := fun e => by rw [e] at hq; rw [hD1] at hq; cases hq
          refine nls_app (nls_imp hN fun p' o e1 e2 => ⟨?_, e2⟩) (.cons ⟨?_, ?_⟩ .nil)
          · have n1 : p' ≠ D := fun e => by rw [e, upd_same] at e2; cases e2
            rw [upd_ne n1]
            exact upd_keep (upd_keep e1 hp) hq
          · rw [upd_ne nq, upd_same, nV_app, ← hf]
            rfl
          · rw [upd_ne nq]
            have h1 : H' q = none := by
              have nqp : q ≠ p := fun e => by rw [e, upd_same] at hq; cases hq
              rw [upd_ne nqp] at hq
              exact hq
            exact hS.free h1
        · exact same_fresh (same_new (same_new hS hp) hq) hD
      · rintro H' ⟨as, hD', hN, hS⟩
        have e : (Cm.ext 0 n s).take ((n : Int) - (first : Int)).toNat = Cm.ext 0 n s := List.take_of_length_le (by rw [Cm.ext_len]; omega)
        rw [e] at hN
        refine k H' D hS hD ⟨as, hD', nls_imp hN fun p' o e1 e2 => ⟨e1, ?_⟩⟩
        have n1 : p' ≠ D := fun e => by rw [e, upd_same] at e2; cases e2
        rw [upd_ne n1] at e2
        exact e2
    refine ⟨_, rfl, !(nV s).isEmpty, Or.inl ⟨_, SqL.of ha, rfl⟩, ?_⟩
    obtain rfl | ⟨r, x, rfl⟩ : s = [] ∨ ∃ (r : List Nat) (x : Nat), s = r ++ [x] := by
      rcases List.eq_nil_or_concat s with h | ⟨r, x, h⟩
      · exact .inl h
      · exact .inr ⟨r, x, by rw [h, List.concat_eq_append]⟩
    · exact iteF (key 0 rfl)
    · have e1 : nV (r ++ [x]) = nV r ++ [V.int (x : Int)] := nV_app r [x]
      have e2 : (!(nV (r ++ [x])).isEmpty) = true := by rw [e1]; simp
      rw [e2]
      refine iteT ⟨_, rfl, _, rfl, a, _, _, V.int (x : Int), rfl, rfl, SqL.of ha, (by rw [e1]; exact atI_last _ _), _, _, rfl, rfl, ?_⟩
      exact key (x + 1) Cm.from_last.symm
end
end Cn
set_option Elab.async false
set_option maxRecDepth 100000
set_option maxHeartbeats 4000000
namespace Cn
open PySem PySem.Spec PyProof.Rows L2
section
variable {P : Program} {w : World} {K : PySem.W.Frag} {mg : Str → Option Value} {base : Heap}
theorem scSets : FnScope ["k", "coins", "sets", "step", "longer", "places"] ["k", "coins"] (defScope sSets) := ⟨rfl, rfl, rfl, by decide +kernel, rfl, by decide +kernel, by decide +kernel⟩
theorem ok_sets {f fW : Addr} {fd fdW : FuncData} (F : Fun K "sets_of_places" "sets_of_places" sSets f fd) (hrange : mg "range" = none)
    (GW : FnOk P w K mg base CX0 1 fW fdW ["places", "coins"] spWom) (mgW : mg "with_one_more" = some (.ref fW)) (kpW : PySem.W.keepIn K (.ref fW) = true) (bW : Binds K fdW ["places", "coins"] []) :
    FnOk P w K mg base CX0 2 f fd ["k", "coins"] spSets := by
  refine F.ok scSets (fun vs H Q E h => ?_) (fun cdv A outer s H vs Q E hr h => ?_)
  · obtain ⟨k, n, rfl, _⟩ := h
    rfl
  · obtain ⟨k, n, rfl, hk, hn, kk⟩ := h
    refine ⟨_, pss_cons (ps_set (i := 2) scSets.nd rfl (Or.inl rfl) (pe_lst (pa_cons (pe_lst pa_nil) pa_nil)))
      (pss_cons (ps_for PassesOwn.never rfl (pi_range1 rfl hrange (pa_cons (pv 0) pa_nil)) (pg_name (i := 3) scSets.nd rfl (Or.inl rfl))
        (pss_cons (ps_set (i := 4) scSets.nd rfl (Or.inl rfl) (pe_lst pa_nil))
        (pss_cons (ps_for PassesOwn.never rfl (pi_list (pv 2)) (pg_name (i := 5) scSets.nd rfl (Or.inl rfl))
          (pss_one (ps_expr (pe_bm PySem.F.plainAttrs_list PySem.F.slot_list_extend PySem.F.type_list_extend mt_extend (pv 4) (pa_cons (pe_call GW hr rfl mgW kpW bW .nil pass0 (pa_cons (pv 5) (pa_cons (pv 1) pa_nil))) pa_nil)))))
        (pss_one (ps_set (i := 2) scSets.nd rfl (Or.inl rfl) (pv 4))))))
      (pss_one (ps_ret (pv 2)))), ?_⟩
    -- sets = [[]]
    refine ⟨Nat.zero_le _, fun e0 he0 => ⟨(by show 1 ≤ sizeLine; decide), fun c0 hc0 => ?_⟩⟩
    have hc0' : H c0 = none := by
      have : c0 ≠ e0 := fun q => by rw [q, upd_same] at hc0; cases hc0
      rw [upd_ne this] at hc0
      exact hc0
    have S0 : Same H (upd (upd H e0 (.lst [])) c0 (.lst [V.ref e0])) := same_new (same_new (Same.refl H) he0) hc0
    refine ⟨_, rfl, _, rfl, by omega, by omega, for_range (fun i σ H' => ∃ (c : Addr) (v3 v4 v5 : Option V), σ = [some (.int k), some (.int n), some (.ref c), v3, v4, v5] ∧ Same H H' ∧ H c = none ∧ LL H H' c (Cm.setsN n i)) ?_ ?_ ?_⟩
    · refine ⟨c0, none, none, none, rfl, S0, hc0', [e0], upd_same, .cons ⟨?_, he0⟩ .nil⟩
      exact upd_keep upd_same hc0
    · rintro i σ H1 hi ⟨c, v3, v4, v5, rfl, S1, hc, as, hc1, N1⟩
      -- longer = []
      refine ⟨Nat.zero_le _, fun q hq => ?_⟩
      have hqH : H q = none := S1.free hq
      refine ⟨_, rfl, c, rfl, ⟨_, SqL.of (upd_keep hc1 hq)⟩, for_list (K := K) (a := c) (xs := as.map V.ref) (fun j σ H' => ∃ (v5 : Option V), σ = [some (.int k), some (.int n), some (.ref c), some (.int (0 + (i : Int))), some (.ref q), v5] ∧ Same H1 H' ∧
        ∃ bs, H' q = some (.lst (bs.map V.ref)) ∧ Nls (upd H1 q (.lst [])) H' bs (((Cm.setsN n i).take j).flatMap (Cm.ext 0 n))) ?_ ?_ ?_ ?_⟩
      · exact ⟨v5, rfl, same_new (Same.refl H1) hq, [], upd_same, .nil⟩
      · rintro j σ H' hj ⟨v5, rfl, S2, bs, hq2, N2⟩
        exact SqL.of (S2 _ _ hc1)
      · rintro j y σ H' hj ⟨v5, rfl, S2, bs, hq2, N2⟩
        obtain ⟨p, hp, rfl⟩ := refs_of hj
        obtain ⟨l, hl, hpl, _⟩ := nls_get N1 hp
        obtain ⟨m1, m2⟩ := Cm.setsN_mem (List.mem_of_getElem? hl)
        have hjl : (((Cm.setsN n i).take (j + 1)).flatMap (Cm.ext 0 n)).length ≤ 1024 := Nat.le_trans (Cm.flat_take_le _ _ _) (Cm.setsN_len hn (i + 1))
        rw [Cm.flat_take hl, List.length_append] at hjl
        refine ⟨_, rfl, .inl ⟨rfl, _, SqL.of hq2⟩, _, rfl, _, rfl, p, l, n, rfl, S2 _ _ hpl, by omega, hn, m2.lt, fun H3 r S3 hr3 L3 => ?_⟩
        obtain ⟨cs, hcs, N3⟩ := L3
        have hq3 := S3 _ _ hq2
        have nrq : q ≠ r := ne_of_none hq2 hr3
        refine ⟨q, r, _, _, rfl, rfl, hq3, hcs, ?_, ?_⟩
        · rw [List.length_map, List.length_map, nls_len N2, nls_len N3]
          exact sz10 (by omega)
        · refine ⟨_, rfl, same_fresh (S2.trans S3) hq, bs ++ cs, ?_, ?_⟩
          · rw [upd_same, List.map_append]
          · rw [Cm.flat_take hl]
            refine nls_app (nls_imp N2 fun p' o e1 e2 => ⟨?_, e2⟩) (nls_imp N3 fun p' o e1 e2 => ⟨?_, ?_⟩)
            · have n1 : p' ≠ q := fun e => by rw [e, upd_same] at e2; cases e2
              rw [upd_ne n1]
              exact S3 _ _ e1
            · have n1 : p' ≠ q := fun e => by rw [e, hq2] at e2; cases e2
              rw [upd_ne n1]
              exact e1
            · have n1 : p' ≠ q := fun e => by rw [e, hq2] at e2; cases e2
              rw [upd_ne n1]
              exact S2.free e2
      · rintro σ H' ⟨v5, rfl, S2, bs, hq2, N2⟩
        rw [List.length_map, nls_len N1, List.take_length] at N2
        refine ⟨_, rfl, q, _, _, _, rfl, S1.trans S2, hqH, bs, hq2, ?_⟩
        refine nls_imp N2 fun p' o e1 e2 => ⟨e1, ?_⟩
        have n1 : p' ≠ q := fun e => by rw [e, upd_same] at e2; cases e2
        rw [upd_ne n1] at e2
        exact S1.free e2
    · rintro σ H' ⟨c, v3, v4, v5, rfl, S1, hc, L⟩
      refine ⟨_, rfl, ?_⟩
      exact kk H' c S1 hc L
end
end Cn
set_option Elab.async false
set_option maxRecDepth 100000
set_option maxHeartbeats 4000000
namespace Cn
open PySem PySem.Spec PyProof.Rows L2
/-- a row that is the k places from i on, in the ring or in the row -/
def spFrom : Sp := fun vs H Q _ => ∃ (i k n : Nat), vs = [.int i, .int k, .int n] ∧ i < n ∧ k ≤ n ∧ n ≤ 10 ∧
  ∀ (H' : Hp) (p : Addr) (l : List Nat), Same H H' → H p = none → H' p = some (.lst (nV l)) → l.Pairwise (· ≤ ·) → l.Perm ((List.range k).map fun j => (i + j) % n) → Q (.ref p) H'
def spTurns : Sp := fun vs H Q _ => ∃ (m k n : Nat), vs = [.int m, .int k, .int n] ∧ m ≤ 2 ∧ 1 ≤ k ∧ k ≤ n ∧ n ≤ 10 ∧
  ∀ (H' : Hp) (p : Addr), Same H H' → H p = none → LL H H' p (Uw80.turns m k n) → Q (.ref p) H'
theorem nat_list : ∀ {l : List Int}, (∀ x ∈ l, 0 ≤ x) → ∃ ns : List Nat, l = ns.map fun (n : Nat) => (n : Int)
  | [], _ => ⟨[], rfl⟩
  | x :: r, h => by
    obtain ⟨ns, e⟩ := nat_list (l := r) fun y hy => h y (by simp [hy])
    exact ⟨x.toNat :: ns, by rw [List.map_cons, ← e, Int.toNat_of_nonneg (h x (by simp))]⟩
theorem perm_nat {a b : List Nat} (h : (a.map fun (n : Nat) => (n : Int)).Perm (b.map fun (n : Nat) => (n : Int))) : a.Perm b := by
  have := h.map Int.toNat
  rw [List.map_map, List.map_map] at this
  have e : (Int.toNat ∘ fun n : Nat => (n : Int)) = id := by funext n; simp
  rw [e, List.map_id, List.map_id] at this
  exact this
theorem nV_ints (l : List Nat) : nV l = (l.map fun (n : Nat) => (n : Int)).map V.int := by simp [nV]
section
variable {P : Program} {w : World} {K : PySem.W.Frag} {mg : Str → Option Value} {base : Heap}
theorem scFrom : FnScope ["first", "k", "coins", "step"] ["first", "k", "coins"] (defScope sFrom) := ⟨rfl, rfl, rfl, by decide +kernel, rfl, by decide +kernel, by decide +kernel⟩
theorem ok_from {f : Addr} {fd : FuncData} (F : Fun K "places_from" "places_from" sFrom f fd) (hrange : mg "range" = none) (hsorted : mg "sorted" = none) :
    FnOk P w K mg base CX0 1 f fd ["first", "k", "coins"] spFrom := by
  refine F.ok scFrom (fun vs H Q E h => ?_) (fun cdv A outer s H vs Q E hr h => ?_)
  · obtain ⟨i, k, n, rfl, _⟩ := h
    rfl
  · obtain ⟨i, k, n, rfl, hi, hk, hn, kk⟩ := h
    refine ⟨_, pss_one (ps_ret (pe_callB cr_sorted (by rfl) hsorted boot_sorted (pa_cons (pe_lc (own := [("step", 3)]) rfl scFrom.nd (pi_range1 rfl hrange (pa_cons (pv 1) pa_nil)) (blkOk_by (by show blkC ["first", "k", "coins", "step"] (defScope sFrom) _ [("step", 3)] = true; decide +kernel))
        (fun _ _ _ _ _ => pg_name (i := 3) scFrom.nd rfl (Or.inl rfl)) (fun _ _ _ _ _ => pts_nil) (fun _ _ _ _ _ => pe_op op_mod (pe_op op_add (pv 0) (pv 3)) (pv 2))) pa_nil))), ?_⟩
    refine ⟨_, rfl, _, rfl, by omega, by omega, fun D hD => ?_⟩
    refine lc_range (fun j H' => H' D = some (.lst (nV ((List.range j).map fun x => (i + x) % n))) ∧ Same H H') ⟨upd_same, same_new (Same.refl H) hD⟩ ?_ ?_
    · rintro j H' hj ⟨hD', hS⟩
      refine ⟨rfl, ?_⟩
      refine ⟨_, rfl, _, rfl, _, _, rfl, rfl, _, rfl, _, _, rfl, rfl, (by omega), _, hD', ?_, ?_, ?_⟩
      · rw [nV_len, List.length_map, List.length_range]
        have hj' : j < (k : Int).toNat := hj
        exact sz10' (by omega)
      · rw [upd_same, List.range_succ, List.map_append, nV_app]
        have e : ((i : Int) + (0 + (j : Int))) % (n : Int) = (((i + j) % n : Nat) : Int) := by
          rw [Int.zero_add, Int.natCast_emod, Int.natCast_add]
        show some (HO.lst (_ ++ [V.int (((i : Int) + (0 + (j : Int))) % (n : Int))])) = _
        rw [e]
        rfl
      · exact same_fresh hS hD
    · rintro H' ⟨hD', hS⟩
      rw [Int.toNat_natCast] at hD'
      refine ⟨D, ((List.range k).map fun x => (i + x) % n).map fun (n : Nat) => (n : Int), rfl, SqL.of (by rw [← nV_ints]; exact hD'), ?_, fun ns' p h1 h2 hp => ?_⟩
      · simp
        omega
      · have nn : ∀ x ∈ ns', (0 : Int) ≤ x := fun x hx => by
          obtain ⟨y, _, rfl⟩ := List.mem_map.mp (h1.mem_iff.mp hx)
          exact Int.natCast_nonneg _
        obtain ⟨l, rfl⟩ := nat_list nn
        refine kk _ p l (same_new hS hp) (hS.free hp) ?_ ?_ (perm_nat h1)
        · rw [upd_same, nV_ints]
        · rw [List.pairwise_map] at h2
          exact h2.imp fun h => by omega
theorem scTurns : FnScope ["mode", "k", "coins", "firsts", "first"] ["mode", "k", "coins"] (defScope sTurns) := ⟨rfl, rfl, rfl, by decide +kernel, rfl, by decide +kernel, by decide +kernel⟩
theorem turns_sz {m k n : Nat} (hn : n ≤ 10) : (Uw80.turns m k n).length ≤ 1024 := by
  unfold Uw80.turns
  split
  · rw [← Cm.setsN_is]
    exact Cm.setsN_len hn k
  · split
    · simp
      omega
    · simp
      omega
theorem ok_turns {f fS fF : Addr} {fd fdS fdF : FuncData} {t0 t2 : Tok} (F : Fun K "turns_by" "turns_by" sTurns f fd) (hrange : mg "range" = none)
    (m0 : mg "ANY_PLACES" = some (.int 0 t0)) (m2 : mg "IN_A_RING" = some (.int 2 t2))
    (GS : FnOk P w K mg base CX0 2 fS fdS ["k", "coins"] spSets) (mgS : mg "sets_of_places" = some (.ref fS)) (kpS : PySem.W.keepIn K (.ref fS) = true) (bS : Binds K fdS ["k", "coins"] [])
    (GF : FnOk P w K mg base CX0 1 fF fdF ["first", "k", "coins"] spFrom) (mgF : mg "places_from" = some (.ref fF)) (kpF : PySem.W.keepIn K (.ref fF) = true) (bF : Binds K fdF ["first", "k", "coins"] []) :
    FnOk P w K mg base CX0 3 f fd ["mode", "k", "coins"] spTurns := by
  refine F.ok scTurns (fun vs H Q E h => ?_) (fun cdv A outer s H vs Q E hr h => ?_)
  · obtain ⟨m, k, n, rfl, _⟩ := h
    rfl
  · obtain ⟨m, k, n, rfl, hm, hk1, hk, hn, kk⟩ := h
    have hr1 : Room 1 _ := hr.mono (by decide)
    refine ⟨_, pss_cons (ps_if (pt_cmpR op_eq (pv 0) (pe_gi rfl m0) (nomark _)) (pss_one (ps_ret (pe_call GS hr rfl mgS kpS bS .nil pass0 (pa_cons (pv 1) (pa_cons (pv 2) pa_nil))))) pss_nil)
      (pss_cons (ps_set (i := 3) scTurns.nd rfl (Or.inl rfl) (pe_ifExp (pt_cmpR op_eq (pv 0) (pe_gi rfl m2) (nomark _)) (pv 2) (pe_op op_add (pe_op op_sub (pv 2) (pv 1)) pe_int)))
      (pss_one (ps_ret (pe_lc (own := [("first", 4)]) rfl scTurns.nd (pi_range1 rfl hrange (pa_cons (pv 3) pa_nil)) (blkOk_by (by show blkC ["mode", "k", "coins", "firsts", "first"] (defScope sTurns) _ [("first", 4)] = true; decide +kernel))
        (fun _ _ _ _ _ => pg_name (i := 4) scTurns.nd rfl (Or.inl rfl)) (fun _ _ _ _ _ => pts_nil)
        (fun _ _ _ _ _ => pe_call GF hr1 rfl mgF kpF bF .nil pass0 (pa_cons (pv 4) (pa_cons (pv 1) (pa_cons (pv 2) pa_nil)))))))), ?_⟩
    have key : ∀ (fs : Nat) (g : Nat → List Nat), fs ≤ n → Uw80.turns m k n = (List.range fs).map g → (∀ i, i < fs → ∀ l : List Nat, l.Pairwise (· ≤ ·) → l.Perm ((List.range k).map fun j => (i + j) % n) → l = g i) →
        tRet (tLc (iRng1 (tCons (tVar 3) tNil)) (gName 4) tYes (tCall spFrom [] E0 (tCons (tVar 4) (tCons (tVar 1) (tCons (tVar 2) tNil)))) [4]) { nx := fun _ H' => Q .non H', rt := Q } [some (.int m), some (.int k), some (.int n), some (.int fs), none] H := by
      intro fs g hfs eg hg
      refine ⟨_, rfl, _, rfl, by omega, by omega, fun D hD => ?_⟩
      refine lc_range (fun i H' => ∃ as, H' D = some (.lst (as.map V.ref)) ∧ Nls (upd H D (.lst [])) H' as ((List.range i).map g) ∧ Same H H') ⟨[], upd_same, .nil, same_new (Same.refl H) hD⟩ ?_ ?_
      · rintro i H' hi ⟨as, hD', hN, hS⟩
        have hi' : i < fs := by rw [Int.toNat_natCast] at hi; exact hi
        refine ⟨rfl, ?_⟩
        refine ⟨_, rfl, _, rfl, _, rfl, i, k, n, ?_, by omega, hk, hn, fun H3 p l S3 hp hpl up pm => ?_⟩
        · rw [Int.zero_add]
          rfl
        · have el := hg i hi' l up pm
          subst el
          have hlen := nls_len hN
          have hD3 := S3 _ _ hD'
          have npD : p ≠ D := fun e => by rw [e, hD'] at hp; cases hp
          refine ⟨_, hD3, ?_, as ++ [p], ?_, ?_, ?_⟩
          · rw [List.length_map, hlen, List.length_map, List.length_range]
            exact sz10' (by omega)
          · rw [upd_same, List.map_append]
            rfl
          · rw [List.range_succ, List.map_append]
            refine nls_app (nls_imp hN fun p' o e1 e2 => ⟨?_, e2⟩) (.cons ⟨?_, ?_⟩ .nil)
            · have n1 : p' ≠ D := fun e => by rw [e, upd_same] at e2; cases e2
              rw [upd_ne n1]
              exact S3 _ _ e1
            · rw [upd_ne npD]
              exact hpl
            · rw [upd_ne npD]
              exact hS.free hp
          · exact same_fresh (hS.trans S3) hD
      · rintro H' ⟨as, hD', hN, hS⟩
        rw [Int.toNat_natCast, ← eg] at hN
        refine kk H' D hS hD ⟨as, hD', nls_imp hN fun p' o e1 e2 => ⟨e1, ?_⟩⟩
        have n1 : p' ≠ D := fun e => by rw [e, upd_same] at e2; cases e2
        rw [upd_ne n1] at e2
        exact e2
    refine ⟨_, rfl, rfl, _, rfl, ?_⟩
    by_cases h0 : m = 0
    · subst h0
      refine iteT ?_
      refine ⟨_, rfl, _, rfl, k, n, rfl, by omega, hn, fun H' p S hp L => ?_⟩
      rw [Cm.setsN_is] at L
      exact kk H' p S hp L
    · have e0 : decide (V.int (m : Int) = V.int 0) = false := decide_eq_false (by intro e; exact h0 (by injection e; omega))
      rw [e0]
      refine iteF ?_
      refine ⟨_, rfl, rfl, _, rfl, ?_⟩
      by_cases h2 : m = 2
      · subst h2
        refine iteT ⟨_, rfl, ?_⟩
        exact key n _ (Nat.le_refl _) (Cm.turns2 k n) fun i hi l up pm => Cm.ring_sorted hi hk up pm
      · have e2 : decide (V.int (m : Int) = V.int 2) = false := decide_eq_false (by intro e; exact h2 (by injection e; omega))
        rw [e2]
        have h1 : m = 1 := by omega
        subst h1
        refine iteF ⟨_, rfl, _, rfl, _, _, rfl, rfl, _, _, rfl, rfl, ?_⟩
        have e3 : (n : Int) - (k : Int) + 1 = ((n + 1 - k : Nat) : Int) := by omega
        have r := key (n + 1 - k) _ (by omega) (Cm.turns1 k n) fun i hi l up pm => Cm.row_sorted (by omega) up pm
        rw [← e3] at r
        exact r
end
end Cn
set_option Elab.async false
set_option maxRecDepth 100000
set_option maxHeartbeats 4000000
namespace Cn
open PySem PySem.Spec PyProof.Rows L2
abbrev sAll : Stmt := top 28
abbrev sCan : Stmt := top 29
abbrev sTurned : Stmt := top 30
def bits (l : List Nat) : Bool := l.all fun c => decide (c ≤ 1)
def spAll : Sp := fun vs H Q _ => ∃ (a : Addr) (l : List Nat), vs = [.ref a] ∧ H a = some (.lst (nV l)) ∧ l.length ≤ 30 ∧ ∀ H' : Hp, Same H H' → Q (.bl (bits l)) H'
/-- what coins asks -/
def Lies (m k : Nat) (l : List Nat) : Prop := m ≤ 2 ∧ 1 ≤ l.length ∧ l.length ≤ 10 ∧ bits l = true ∧ 1 ≤ k ∧ k ≤ l.length
instance (m k : Nat) (l : List Nat) : Decidable (Lies m k l) := by unfold Lies; infer_instance
def spCan : Sp := fun vs H Q _ => ∃ (m k : Nat) (a : Addr) (l : List Nat), vs = [.int m, .int k, .ref a] ∧ H a = some (.lst (nV l)) ∧ l.length ≤ 30 ∧ ∀ H' : Hp, Same H H' → Q (.bl (decide (Lies m k l))) H'
def spTurned : Sp := fun vs H Q _ => ∃ (a b : Addr) (row pl : List Nat), vs = [.ref a, .ref b] ∧ H a = some (.lst (nV row)) ∧ H b = some (.lst (nV pl)) ∧ row.length ≤ 10 ∧ (∀ c ∈ row, c ≤ 1) ∧
  ∀ (H' : Hp) (p : Addr), Same H H' → H p = none → H' p = some (.lst (nV (Uw80.turned row pl))) → Q (.ref p) H'
theorem inV_01 (x : Nat) : inV (.int (x : Int)) [.int 0, .int 1] = decide (x ≤ 1) := by
  show ((0 : Int) == (x : Int) || ((1 : Int) == (x : Int) || false)) = _
  rw [Bool.eq_iff_iff]
  simp
  omega
theorem inV_012 (x : Nat) : inV (.int (x : Int)) [.int 0, .int 1, .int 2] = decide (x ≤ 2) := by
  show ((0 : Int) == (x : Int) || ((1 : Int) == (x : Int) || ((2 : Int) == (x : Int) || false))) = _
  rw [Bool.eq_iff_iff]
  simp
  omega
theorem inV_nV (x : Nat) : ∀ (l : List Nat), inV (.int (x : Int)) (nV l) = l.contains x
  | [] => rfl
  | y :: r => by
    have ih := inV_nV x r
    show ((y : Int) == (x : Int) || inV (.int (x : Int)) (nV r)) = _
    rw [ih, List.contains_cons]
    congr 1
    rw [Bool.eq_iff_iff]
    simp
    omega
theorem flat_nV (l : List Nat) : (nV l).all flatV = true := by
  rw [List.all_eq_true]
  intro v hv
  obtain ⟨x, _, rfl⟩ := List.mem_map.mp hv
  rfl
section
variable {P : Program} {w : World} {K : PySem.W.Frag} {mg : Str → Option Value} {base : Heap}
theorem scAll : FnScope ["row", "shown"] ["row"] (defScope sAll) := ⟨rfl, rfl, rfl, by decide +kernel, rfl, by decide +kernel, by decide +kernel⟩
theorem ok_all {f : Addr} {fd : FuncData} (F : Fun K "all_coins" "all_coins" sAll f fd) (hall : mg "all" = none) : FnOk P w K mg base CX0 1 f fd ["row"] spAll := by
  refine F.ok scAll (fun vs H Q E h => ?_) (fun cdv A outer s H vs Q E hr h => ?_)
  · obtain ⟨a, l, rfl, _⟩ := h
    rfl
  · obtain ⟨a, l, rfl, ha, hl, kk⟩ := h
    refine ⟨_, pss_one (ps_ret (pe_callB (cr_all rfl) (by rfl) hall boot_all (pa_cons (pe_lc (own := [("shown", 1)]) rfl scAll.nd (pi_list (pv 0)) (blkOk_by (by show blkC ["row", "shown"] (defScope sAll) _ [("shown", 1)] = true; decide +kernel))
        (fun _ _ _ _ _ => pg_name (i := 1) scAll.nd rfl (Or.inl rfl)) (fun _ _ _ _ _ => pts_nil) (fun _ _ _ _ _ => pe_cmpR (r := rIn K false) op_in_seq (pv 1) (pe_tup (pa_cons pe_int (pa_cons pe_int pa_nil))) rfl)) pa_nil))), ?_⟩
    refine ⟨_, rfl, a, rfl, ⟨_, SqL.of ha⟩, fun D hD => ?_⟩
    refine lc_list (K := K) (xs := nV l) (fun i H' => H' D = some (.lst (((l.take i).map fun c => decide (c ≤ 1)).map V.bl)) ∧ Same H H') ⟨upd_same, same_new (Same.refl H) hD⟩ (fun i H' _ h => SqL.of (h.2 _ _ ha)) ?_ ?_
    · rintro i y H' hi ⟨hD', hS⟩
      obtain ⟨x, hx, rfl⟩ := nV_of hi
      refine ⟨rfl, ?_⟩
      refine ⟨_, rfl, (by show 2 ≤ sizeLine; decide), fun t ht => ?_⟩
      refine ⟨t, _, rfl, .inr (SqT.of upd_same), rfl, rfl, _, upd_keep hD' ht, ?_, ?_, same_fresh (same_new hS ht) hD⟩
      · rw [List.length_map, List.length_map, List.length_take]
        exact sz10' (by omega)
      · rw [upd_same, Cm.take_snoc hx, List.map_append, List.map_append]
        show some (HO.lst (_ ++ [V.bl (inV (.int (x : Int)) [.int 0, .int 1])])) = _
        rw [inV_01]
        rfl
    · rintro H' ⟨hD', hS⟩
      rw [nV_len, List.take_length] at hD'
      refine ⟨D, _, rfl, SqL.of hD', ?_⟩
      have e : (l.map fun c => decide (c ≤ 1)).all id = bits l := by
        unfold bits
        rw [List.all_map]
        rfl
      rw [e]
      exact kk H' hS
theorem scCan : FnScope ["mode", "k", "row"] ["mode", "k", "row"] (defScope sCan) := ⟨rfl, rfl, rfl, by decide +kernel, rfl, by decide +kernel, by decide +kernel⟩
theorem ok_can {f fA : Addr} {fd fdA : FuncData} {t0 t1 t2 t10 : Tok} (F : Fun K "can_lie" "can_lie" sCan f fd) (hlen : mg "len" = none)
    (m0 : mg "ANY_PLACES" = some (.int 0 t0)) (m1 : mg "SIDE_BY_SIDE" = some (.int 1 t1)) (m2 : mg "IN_A_RING" = some (.int 2 t2)) (m10 : mg "MOST_COINS" = some (.int 10 t10))
    (GA : FnOk P w K mg base CX0 1 fA fdA ["row"] spAll) (mgA : mg "all_coins" = some (.ref fA)) (kpA : PySem.W.keepIn K (.ref fA) = true) (bA : Binds K fdA ["row"] []) :
    FnOk P w K mg base CX0 2 f fd ["mode", "k", "row"] spCan := by
  refine F.ok scCan (fun vs H Q E h => ?_) (fun cdv A outer s H vs Q E hr h => ?_)
  · obtain ⟨m, k, a, l, rfl, _⟩ := h
    rfl
  · obtain ⟨m, k, a, l, rfl, ha, hl, kk⟩ := h
    refine ⟨_, pss_cons (ps_if (pt_cmpR op_notIn_seq (pv 0) (pe_tup (pa_cons (pe_gi rfl m0) (pa_cons (pe_gi rfl m1) (pa_cons (pe_gi rfl m2) pa_nil)))) rfl) (pss_one (ps_ret pe_bl)) pss_nil)
      (pss_one (ps_ret (pe_and (pe_cmpR op_le (pe_callB call_len_seq (by rfl) hlen PySem.boot_len (pa_cons (pv 2) pa_nil)) (pe_gi rfl m10) (nomark _))
        (pe_and (pe_chain op_le op_le pe_int (pv 1) (pe_callB call_len_seq (by rfl) hlen PySem.boot_len (pa_cons (pv 2) pa_nil)))
        (pe_one (pe_call GA hr rfl mgA kpA bA .nil pass0 (pa_cons (pv 2) pa_nil))))))), ?_⟩
    refine ⟨_, rfl, (by show 3 ≤ sizeLine; decide), fun t ht => ?_⟩
    have S1 : Same H (upd H t (.tup [.int 0, .int 1, .int 2])) := same_new (Same.refl H) ht
    refine ⟨t, _, rfl, .inr (SqT.of upd_same), rfl, rfl, _, rfl, ?_⟩
    show if (!inV (.int (m : Int)) [.int 0, .int 1, .int 2]) = true then _ else _
    rw [inV_012]
    by_cases hm : m ≤ 2
    · rw [decide_eq_true hm]
      refine iteF ?_
      refine ⟨_, rfl, a, _, rfl, .inl (SqL.of (S1 _ _ ha)), _, _, rfl, rfl, _, rfl, ?_⟩
      rw [nV_len]
      by_cases h10 : l.length ≤ 10
      · rw [decide_eq_true (show (l.length : Int) ≤ 10 by omega)]
        refine iteT ⟨_, rfl, _, _, rfl, rfl, _, rfl, ?_⟩
        by_cases hk1 : 1 ≤ k
        · rw [decide_eq_true (show (1 : Int) ≤ (k : Int) by omega)]
          refine iteT ⟨_, rfl, a, _, rfl, .inl (SqL.of (S1 _ _ ha)), _, _, rfl, rfl, _, rfl, ?_⟩
          rw [nV_len]
          by_cases hk : k ≤ l.length
          · rw [decide_eq_true (show (k : Int) ≤ (l.length : Int) by omega)]
            refine iteT ⟨_, rfl, a, l, rfl, S1 _ _ ha, hl, fun H' S2 => ?_⟩
            have e : decide (Lies m k l) = bits l := by
              rw [Bool.eq_iff_iff, decide_eq_true_iff]
              exact ⟨fun h => h.2.2.2.1, fun h => ⟨hm, by omega, h10, h, hk1, hk⟩⟩
            have := kk H' (S1.trans S2)
            rw [e] at this
            exact this
          · rw [decide_eq_false (show ¬ (k : Int) ≤ (l.length : Int) by omega)]
            have := kk _ S1
            rw [decide_eq_false (fun h => hk h.2.2.2.2.2)] at this
            exact iteF this
        · rw [decide_eq_false (show ¬ (1 : Int) ≤ (k : Int) by omega)]
          have := kk _ S1
          rw [decide_eq_false (fun h => hk1 h.2.2.2.2.1)] at this
          exact iteF ⟨_, rfl, iteF this⟩
      · rw [decide_eq_false (show ¬ (l.length : Int) ≤ 10 by omega)]
        have := kk _ S1
        rw [decide_eq_false (fun h => h10 h.2.2.1)] at this
        exact iteF this
    · rw [decide_eq_false hm]
      have := kk _ S1
      rw [decide_eq_false (fun h => hm h.1)] at this
      exact iteT this
theorem scTurned : FnScope ["row", "places", "place"] ["row", "places"] (defScope sTurned) := ⟨rfl, rfl, rfl, by decide +kernel, rfl, by decide +kernel, by decide +kernel⟩
theorem ok_turned {f : Addr} {fd : FuncData} (F : Fun K "turned" "turned" sTurned f fd) (hrange : mg "range" = none) (hlen : mg "len" = none) : FnOk P w K mg base CX0 1 f fd ["row", "places"] spTurned := by
  refine F.ok scTurned (fun vs H Q E h => ?_) (fun cdv A outer s H vs Q E hr h => ?_)
  · obtain ⟨a, b, row, pl, rfl, _⟩ := h
    rfl
  · obtain ⟨a, b, row, pl, rfl, ha, hb, hl, hbit, kk⟩ := h
    refine ⟨_, pss_one (ps_ret (pe_lc (own := [("place", 2)]) rfl scTurned.nd (pi_range1 rfl hrange (pa_cons (pe_callB call_len_seq (by rfl) hlen PySem.boot_len (pa_cons (pv 0) pa_nil)) pa_nil)) (blkOk_by (by show blkC ["row", "places", "place"] (defScope sTurned) _ [("place", 2)] = true; decide +kernel))
        (fun _ _ _ _ _ => pg_name (i := 2) scTurned.nd rfl (Or.inl rfl)) (fun _ _ _ _ _ => pts_nil)
        (fun _ _ _ _ _ => pe_ifExp (pt_cmpR (r := rIn K false) op_in_seq (pv 2) (pv 1) rfl) (pe_op op_sub pe_int (pe_ix (r := rIxL K) ix_list (pv 0) (pv 2) (fun _ _ => rfl))) (pe_ix (r := rIxL K) ix_list (pv 0) (pv 2) (fun _ _ => rfl))))), ?_⟩
    refine ⟨_, rfl, a, _, rfl, .inl (SqL.of ha), _, rfl, ?_, ?_, fun D hD => ?_⟩
    · rw [nV_len]
      omega
    · rw [nV_len]
      omega
    refine lc_range (fun i H' => H' D = some (.lst (nV ((Uw80.turned row pl).take i))) ∧ Same H H') ⟨upd_same, same_new (Same.refl H) hD⟩ ?_ ?_
    · rintro i H' hi ⟨hD', hS⟩
      rw [nV_len, Int.toNat_natCast] at hi
      have hx : row[i]? = some row[i] := List.getElem?_eq_getElem hi
      have hc := hbit _ (List.getElem_mem hi)
      have hlt : (nV ((Uw80.turned row pl).take i)).length < sizeLine := by
        rw [nV_len, List.length_take, Cm.turned_len]
        exact sz10' (by omega)
      have get := Cm.turned_get (p := pl) hi
      refine ⟨rfl, ?_⟩
      refine ⟨_, rfl, _, rfl, b, _, rfl, .inl (SqL.of (hS _ _ hb)), rfl, flat_nV pl, _, rfl, ?_⟩
      show if inV (.int (0 + (i : Int))) (nV pl) = true then _ else _
      rw [Int.zero_add, inV_nV]
      have hix : atI (nV row) (i : Int) = some (V.int (row[i] : Int)) := atI_nat (nV_get hx)
      cases e : pl.contains i with
      | true =>
        rw [e, if_pos rfl] at get
        refine iteT ⟨_, rfl, _, rfl, a, _, _, _, rfl, rfl, SqL.of (hS _ _ ha), hix, _, _, rfl, rfl, _, hD', hlt, ?_, same_fresh hS hD⟩
        rw [upd_same, Cm.take_snoc get, nV_app]
        have e1 : (1 : Int) - (row[i] : Int) = ((1 - row[i] : Nat) : Int) := by omega
        show some (HO.lst (_ ++ [V.int ((1 : Int) - (row[i] : Int))])) = _
        rw [e1]
        rfl
      | false =>
        rw [e, if_neg Bool.false_ne_true] at get
        refine iteF ⟨_, rfl, _, rfl, a, _, _, _, rfl, rfl, SqL.of (hS _ _ ha), hix, _, hD', hlt, ?_, same_fresh hS hD⟩
        rw [upd_same, Cm.take_snoc get, nV_app]
        rfl
    · rintro H' ⟨hD', hS⟩
      rw [nV_len, Int.toNat_natCast, List.take_of_length_le (by rw [Cm.turned_len]; exact Nat.le_refl _)] at hD'
      exact kk H' D hS hD hD'
end
end Cn
set_option Elab.async false
set_option maxRecDepth 100000
set_option maxHeartbeats 4000000
namespace Cn
open PySem PySem.Spec PyProof.Rows L2
abbrev cCoins : Stmt := top 31
abbrev sInit : Stmt := inClass cCoins 0
abbrev sLay : Stmt := inClass cCoins 1
abbrev sHas : Stmt := inClass cCoins 2
abbrev sTurn : Stmt := inClass cCoins 3
abbrev sPlaces : Stmt := inClass cCoins 4
abbrev sShows : Stmt := inClass cCoins 5
def iV (l : List Int) : List V := l.map V.int
theorem iV_ints (l : List Nat) : iV (Uw80.ints l) = nV l := by simp [iV, Uw80.ints, nV]
theorem iV_app (a b : List Int) : iV (a ++ b) = iV a ++ iV b := by simp [iV]
/-- the attributes -/
def cf (m k : Nat) (pr pt : Addr) : List (Str × V) := [("mode", .int m), ("k", .int k), ("row", .ref pr), ("turns", .ref pt)]
/-- what is always true of the coins -/
structure Good (z : Uw80.Coins) : Prop where
  mode : z.mode ≤ 2
  k1 : 1 ≤ z.k
  kn : z.k ≤ z.row.length
  n10 : z.row.length ≤ 10
  bit : ∀ c ∈ z.row, c ≤ 1
abbrev Free : Hp := fun _ => none
structure CoinsAt (C : Addr) (H : Hp) (c : Addr) (z : Uw80.Coins) (dx pr pt : Addr) (as : List Addr) : Prop where
  obj : H c = some (.ins C dx (cf z.mode z.k pr pt))
  row : H pr = some (.lst (nV z.row))
  lst : H pt = some (.lst (as.map V.ref))
  turns : Nls Free H as (Uw80.turns z.mode z.k z.row.length)
def IsCoins (C : Addr) (H : Hp) (c : Addr) (z : Uw80.Coins) : Prop := ∃ dx pr pt as, CoinsAt C H c z dx pr pt as
/-- the coins' own lists stand apart from what H0 has -/
def Av (H0 : Hp) (pr pt : Addr) (as : List Addr) : Prop := H0 pr = none ∧ H0 pt = none ∧ ∀ b ∈ as, H0 b = none
def IsCoinsA (H0 : Hp) (C : Addr) (H : Hp) (c : Addr) (z : Uw80.Coins) : Prop := ∃ dx pr pt as, CoinsAt C H c z dx pr pt as ∧ Av H0 pr pt as
def Sub (H0 H : Hp) : Prop := ∀ b, H b = none → H0 b = none
theorem nls_mem {H0 H : Hp} : ∀ {as : List Addr} {ls : List (List Nat)}, Nls H0 H as ls → ∀ b ∈ as, H0 b = none
  | _, _, .nil, _, hb => by cases hb
  | _, _, .cons h t, b, hb => by
    rcases List.mem_cons.mp hb with e | hb
    · rw [e]; exact h.2
    · exact nls_mem t b hb
/-- all but c is as it was -/
def Kept (c : Addr) (H H' : Hp) : Prop := ∀ b o, H b = some o → b ≠ c → H' b = some o
/-- a call of a method on the coins -/
def spCall (C : Addr) (args : List V) (call : Uw80.Call) : Sp := fun vs H Q _ => ∃ (H0 : Hp) (c : Addr) (z : Uw80.Coins), vs = .ref c :: args ∧ IsCoinsA H0 C H c z ∧ Sub H0 H ∧ Good z ∧
  ∀ (H' : Hp) (p : Addr), IsCoinsA H0 C H' c (Uw80.step z call).1 → Kept c H H' → H p = none → H' p = some (.lst (iV (Uw80.step z call).2)) → Q (.ref p) H'
def spHas (C : Addr) : Sp := fun vs H Q _ => ∃ (c : Addr) (z : Uw80.Coins) (i : Nat), vs = [.ref c, .int i] ∧ IsCoins C H c z ∧ Q (.bl (decide (i < (Uw80.turns z.mode z.k z.row.length).length))) H
def spTurn (C : Addr) : Sp := fun vs H Q E => ∃ i : Nat, spCall C [.int i] (.turn i) vs H Q E
def spPlaces (C : Addr) : Sp := fun vs H Q E => ∃ i : Nat, spCall C [.int i] (.places i) vs H Q E
def spShows (C : Addr) : Sp := fun vs H Q E => spCall C [] .shows vs H Q E
structure Txt (K : PySem.W.Frag) (C : Addr) : Prop where
  cl : Cls K C
  nM : NoAttr K C "mode"
  nK : NoAttr K C "k"
  nR : NoAttr K C "row"
  nT : NoAttr K C "turns"
theorem cf_mode (m k : Nat) (pr pt : Addr) : (cf m k pr pt).lookup ("mode" : Str) = some (.int m) := by
  show List.lookup _ (_ :: _) = _
  rw [List.lookup_cons_self]
theorem look_ne {f g : Str} {v : V} {r : List (Str × V)} (h : (g == f) = false) : List.lookup g ((f, v) :: r) = List.lookup g r := by
  rw [List.lookup_cons, h]
theorem cf_k (m k : Nat) (pr pt : Addr) : (cf m k pr pt).lookup ("k" : Str) = some (.int k) := by
  unfold cf
  rw [look_ne (by decide +kernel), List.lookup_cons_self]
theorem cf_row (m k : Nat) (pr pt : Addr) : (cf m k pr pt).lookup ("row" : Str) = some (.ref pr) := by
  unfold cf
  rw [look_ne (by decide +kernel), look_ne (by decide +kernel), List.lookup_cons_self]
theorem cf_turns (m k : Nat) (pr pt : Addr) : (cf m k pr pt).lookup ("turns" : Str) = some (.ref pt) := by
  unfold cf
  rw [look_ne (by decide +kernel), look_ne (by decide +kernel), look_ne (by decide +kernel), List.lookup_cons_self]
theorem cf_no (m k : Nat) (pr pt : Addr) {g : Str} (h1 : (g == ("mode" : Str)) = false) (h2 : (g == ("k" : Str)) = false) (h3 : (g == ("row" : Str)) = false) (h4 : (g == ("turns" : Str)) = false) : (cf m k pr pt).lookup g = none := by
  unfold cf
  rw [look_ne h1, look_ne h2, look_ne h3, look_ne h4]
  rfl
theorem putF_same {f : Str} {v u : V} {r : List (Str × V)} : putF f v ((f, u) :: r) = (f, v) :: r := by
  show (if f = f then _ else _) = _
  rw [if_pos rfl]
theorem putF_other {f g : Str} {v u : V} {r : List (Str × V)} (h : (g == f) = false) : putF f v ((g, u) :: r) = (g, u) :: putF f v r := by
  show (if g = f then _ else _) = _
  rw [if_neg (by intro e; rw [e] at h; simp at h)]
theorem cf_putRow (m k : Nat) (pr pt q : Addr) : putF "row" (.ref q) (cf m k pr pt) = cf m k q pt := by
  unfold cf
  rw [putF_other (by decide +kernel), putF_other (by decide +kernel), putF_same]
theorem CoinsAt.kept {C : Addr} {H H' : Hp} {c dx pr pt : Addr} {z : Uw80.Coins} {as : List Addr} (h : CoinsAt C H c z dx pr pt as) (k : Same H H') : CoinsAt C H' c z dx pr pt as :=
  ⟨k _ _ h.obj, k _ _ h.row, k _ _ h.lst, nls_imp h.turns fun p o e _ => ⟨k _ _ e, rfl⟩⟩
theorem Same.keptBut {H H' : Hp} {c : Addr} (h : Same H H') : Kept c H H' := fun b o e _ => h b o e
section
variable {P : Program} {w : World} {K : PySem.W.Frag} {mg : Str → Option Value} {base : Heap}
theorem scHas : FnScope ["self", "number"] ["self", "number"] (defScope sHas) := ⟨rfl, rfl, rfl, by decide +kernel, rfl, by decide +kernel, by decide +kernel⟩
theorem ok_has {f C : Addr} {fd : FuncData} (F : Fun K "has_turn" "Coins.has_turn" sHas f fd) (T : Txt K C) (hlen : mg "len" = none) : FnOk P w K mg base CX0 1 f fd ["self", "number"] (spHas C) := by
  refine F.ok scHas (fun vs H Q E h => ?_) (fun cdv A outer s H vs Q E hr h => ?_)
  · obtain ⟨c, z, i, rfl, _⟩ := h
    rfl
  · obtain ⟨c, z, i, rfl, ⟨dx, pr, pt, as, O⟩, q⟩ := h
    refine ⟨_, pss_one (ps_ret (pe_cmpR op_lt (pv 1) (pe_callB call_len_seq (by rfl) hlen PySem.boot_len (pa_cons (pe_fld (pv 0) rfl) pa_nil)) (nomark _))), ?_⟩
    refine ⟨_, rfl, _, rfl, c, C, dx, _, _, rfl, O.obj, T.cl, T.nT, cf_turns _ _ _ _, pt, _, rfl, .inl (SqL.of O.lst), _, _, rfl, rfl, ?_⟩
    have e : decide ((i : Int) < ((as.map V.ref).length : Int)) = decide (i < (Uw80.turns z.mode z.k z.row.length).length) := by
      rw [List.length_map, nls_len O.turns, Bool.eq_iff_iff, decide_eq_true_iff, decide_eq_true_iff]
      omega
    show Q (.bl (decide ((i : Int) < ((as.map V.ref).length : Int)))) H
    rw [e]
    exact q
theorem scShows : FnScope ["self"] ["self"] (defScope sShows) := ⟨rfl, rfl, rfl, by decide +kernel, rfl, by decide +kernel, by decide +kernel⟩
theorem ok_shows {f C : Addr} {fd : FuncData} (F : Fun K "shows" "Coins.shows" sShows f fd) (T : Txt K C) (hlen : mg "len" = none) : FnOk P w K mg base CX0 1 f fd ["self"] (spShows C) := by
  refine F.ok scShows (fun vs H Q E h => ?_) (fun cdv A outer s H vs Q E hr h => ?_)
  · obtain ⟨H0, c, z, rfl, _⟩ := h
    rfl
  · obtain ⟨H0, c, z, rfl, ⟨dx, pr, pt, as, O, Va⟩, Sb, G, kk⟩ := h
    refine ⟨_, pss_one (ps_ret (pe_op op_cat (pe_lst (pa_cons (pe_fld (pv 0) rfl) (pa_cons (pe_fld (pv 0) rfl) (pa_cons (pe_callB call_len_seq (by rfl) hlen PySem.boot_len (pa_cons (pe_fld (pv 0) rfl) pa_nil)) pa_nil)))) (pe_fld (pv 0) rfl))), ?_⟩
    refine ⟨_, rfl, c, C, dx, _, _, rfl, O.obj, T.cl, T.nM, cf_mode _ _ _ _, _, rfl, c, C, dx, _, _, rfl, O.obj, T.cl, T.nK, cf_k _ _ _ _, _, rfl, c, C, dx, _, _, rfl, O.obj, T.cl, T.nR, cf_row _ _ _ _, pr, _, rfl, .inl (SqL.of O.row),
      (by show 3 ≤ sizeLine; decide), fun t ht => ?_⟩
    have S1 : Same H (upd H t (.lst [V.int (z.mode : Int), V.int (z.k : Int), V.int ((nV z.row).length : Int)])) := same_new (Same.refl H) ht
    refine ⟨_, rfl, c, C, dx, _, _, rfl, S1 _ _ O.obj, T.cl, T.nR, cf_row _ _ _ _, t, pr, _, _, rfl, rfl, upd_same, S1 _ _ O.row, ?_, fun p hp => ?_⟩
    · rw [nV_len]
      exact sz10 (by show 3 + z.row.length ≤ 2000; have := G.n10; omega)
    · have S2 := same_new (o := HO.lst ([V.int (z.mode : Int), V.int (z.k : Int), V.int ((nV z.row).length : Int)] ++ nV z.row)) S1 hp
      refine kk _ p ⟨dx, pr, pt, as, O.kept S2, Va⟩ (Same.keptBut S2) (S1.free hp) ?_
      rw [upd_same]
      show some (HO.lst ([V.int (z.mode : Int), V.int (z.k : Int), V.int ((nV z.row).length : Int)] ++ nV z.row)) = some (HO.lst (iV (Uw80.ints [z.mode, z.k] ++ ((z.row.length : Int) :: Uw80.ints z.row))))
      rw [iV_app, iV_ints, nV_len]
      show _ = some (HO.lst (_ ++ (V.int (z.row.length : Int) :: iV (Uw80.ints z.row))))
      rw [iV_ints]
      rfl
theorem scPlaces : FnScope ["self", "number"] ["self", "number"] (defScope sPlaces) := ⟨rfl, rfl, rfl, by decide +kernel, rfl, by decide +kernel, by decide +kernel⟩
theorem ok_places {f fH C : Addr} {fd fdH : FuncData} {t2 : Tok} (F : Fun K "places" "Coins.places" sPlaces f fd) (T : Txt K C) (m2 : mg "NO_SUCH_TURN" = some (.int (-2) t2))
    (GH : FnOk P w K mg base CX0 1 fH fdH ["self", "number"] (spHas C)) (mH : Meth K C "has_turn" fH) (bH : Binds K fdH ["self", "number"] []) : FnOk P w K mg base CX0 2 f fd ["self", "number"] (spPlaces C) := by
  refine F.ok scPlaces (fun vs H Q E h => ?_) (fun cdv A outer s H vs Q E hr h => ?_)
  · obtain ⟨i, H0, c, z, rfl, _⟩ := h
    rfl
  · obtain ⟨i, H0, c, z, rfl, ⟨dx, pr, pt, as, O, Va⟩, Sb, G, kk⟩ := h
    refine ⟨_, pss_cons (ps_if (pt_not (pt_truth (pe_meth (pv 0) T.cl mH GH hr bH .nil pass0 (pa_cons (pv 1) pa_nil)) (fun _ => rfl))) (pss_one (ps_ret (pe_lst (pa_cons (pe_gi rfl m2) pa_nil)))) pss_nil)
      (pss_one (ps_ret (pe_op op_cat (pe_lst (pa_cons (pe_fld (pv 0) rfl) pa_nil)) (pe_ix ix_list (pe_fld (pv 0) rfl) (pv 1) (fun _ _ => rfl))))), ?_⟩
    refine ⟨_, rfl, c, dx, _, rfl, O.obj, cf_no _ _ _ _ (by decide +kernel) (by decide +kernel) (by decide +kernel) (by decide +kernel), _, rfl, c, z, i, rfl, ⟨dx, pr, pt, as, O⟩, _, rfl, ?_⟩
    by_cases hi : i < (Uw80.turns z.mode z.k z.row.length).length
    · rw [decide_eq_true hi]
      refine iteF ?_
      have hx : (Uw80.turns z.mode z.k z.row.length)[i]? = some (Uw80.turns z.mode z.k z.row.length)[i] := List.getElem?_eq_getElem hi
      obtain ⟨q, hq, hql, _⟩ := nls_at O.turns hx
      have hlen := Cm.turns_len G.kn (List.mem_of_getElem? hx)
      refine ⟨_, rfl, c, C, dx, _, _, rfl, O.obj, T.cl, T.nK, cf_k _ _ _ _, (by show 1 ≤ sizeLine; decide), fun t ht => ?_⟩
      have S1 : Same H (upd H t (.lst [V.int (z.k : Int)])) := same_new (Same.refl H) ht
      refine ⟨_, rfl, c, C, dx, _, _, rfl, S1 _ _ O.obj, T.cl, T.nT, cf_turns _ _ _ _, _, rfl, pt, _, _, V.ref q, rfl, rfl, SqL.of (S1 _ _ O.lst), atI_nat (by rw [List.getElem?_map, hq]; rfl),
        t, q, _, _, rfl, rfl, upd_same, S1 _ _ hql, ?_, fun p hp => ?_⟩
      · rw [nV_len, hlen]
        exact sz10 (by show 1 + z.k ≤ 2000; have := G.n10; have := G.kn; omega)
      · have S2 := same_new (o := HO.lst ([V.int (z.k : Int)] ++ nV (Uw80.turns z.mode z.k z.row.length)[i])) S1 hp
        have es : Uw80.step z (.places i) = (z, Uw80.counted (Uw80.turns z.mode z.k z.row.length)[i]) := by
          show (z, match (Uw80.turns z.mode z.k z.row.length)[i]? with | none => [-2] | some p => Uw80.counted p) = _
          rw [hx]
        rw [es] at kk
        refine kk _ p ⟨dx, pr, pt, as, O.kept S2, Va⟩ (Same.keptBut S2) (S1.free hp) ?_
        rw [upd_same]
        show _ = some (HO.lst (V.int ((Uw80.turns z.mode z.k z.row.length)[i].length : Int) :: iV (Uw80.ints (Uw80.turns z.mode z.k z.row.length)[i])))
        rw [iV_ints, hlen]
        rfl
    · rw [decide_eq_false hi]
      refine iteT ⟨(by show 1 ≤ sizeLine; decide), fun t ht => ?_⟩
      have S1 : Same H (upd H t (.lst [V.int (-2)])) := same_new (Same.refl H) ht
      have es : Uw80.step z (.places i) = (z, [-2]) := by
        show (z, match (Uw80.turns z.mode z.k z.row.length)[i]? with | none => [-2] | some p => Uw80.counted p) = _
        rw [List.getElem?_eq_none (by omega)]
      rw [es] at kk
      exact kk _ t ⟨dx, pr, pt, as, O.kept S1, Va⟩ (Same.keptBut S1) ht upd_same
theorem scTurn : FnScope ["self", "number"] ["self", "number"] (defScope sTurn) := ⟨rfl, rfl, rfl, by decide +kernel, rfl, by decide +kernel, by decide +kernel⟩
theorem ok_turn {f fH fT C : Addr} {fd fdH fdT : FuncData} {t2 : Tok} (F : Fun K "turn" "Coins.turn" sTurn f fd) (T : Txt K C) (m2 : mg "NO_SUCH_TURN" = some (.int (-2) t2)) (hsum : mg "sum" = none)
    (GH : FnOk P w K mg base CX0 1 fH fdH ["self", "number"] (spHas C)) (mH : Meth K C "has_turn" fH) (bH : Binds K fdH ["self", "number"] [])
    (GT : FnOk P w K mg base CX0 1 fT fdT ["row", "places"] spTurned) (mgT : mg "turned" = some (.ref fT)) (kpT : PySem.W.keepIn K (.ref fT) = true) (bT : Binds K fdT ["row", "places"] []) : FnOk P w K mg base CX0 2 f fd ["self", "number"] (spTurn C) := by
  refine F.ok scTurn (fun vs H Q E h => ?_) (fun cdv A outer s H vs Q E hr h => ?_)
  · obtain ⟨i, H0, c, z, rfl, _⟩ := h
    rfl
  · obtain ⟨i, H0, c, z, rfl, ⟨dx, pr, pt, as, O, Va⟩, Sb, G, kk⟩ := h
    refine ⟨_, pss_cons (ps_if (pt_not (pt_truth (pe_meth (pv 0) T.cl mH GH hr bH .nil pass0 (pa_cons (pv 1) pa_nil)) (fun _ => rfl))) (pss_one (ps_ret (pe_lst (pa_cons (pe_gi rfl m2) pa_nil)))) pss_nil)
      (pss_cons (ps_fld (pv 0) (pe_call GT hr rfl mgT kpT bT .nil pass0 (pa_cons (pe_fld (pv 0) rfl) (pa_cons (pe_ix ix_list (pe_fld (pv 0) rfl) (pv 1) (fun _ _ => rfl)) pa_nil))) rfl)
      (pss_one (ps_ret (pe_op op_cat (pe_lst (pa_cons (pe_callB (cr_sum rfl) (by rfl) hsum boot_sum (pa_cons (pe_fld (pv 0) rfl) pa_nil)) pa_nil)) (pe_fld (pv 0) rfl))))), ?_⟩
    refine ⟨_, rfl, c, dx, _, rfl, O.obj, cf_no _ _ _ _ (by decide +kernel) (by decide +kernel) (by decide +kernel) (by decide +kernel), _, rfl, c, z, i, rfl, ⟨dx, pr, pt, as, O⟩, _, rfl, ?_⟩
    by_cases hi : i < (Uw80.turns z.mode z.k z.row.length).length
    · rw [decide_eq_true hi]
      refine iteF ?_
      have hx : (Uw80.turns z.mode z.k z.row.length)[i]? = some (Uw80.turns z.mode z.k z.row.length)[i] := List.getElem?_eq_getElem hi
      obtain ⟨q, hq, hql, _⟩ := nls_at O.turns hx
      generalize hpl : (Uw80.turns z.mode z.k z.row.length)[i] = pl at hx hql
      have es : Uw80.step z (.turn i) = ({ z with row := Uw80.turned z.row pl }, (Uw80.ones (Uw80.turned z.row pl) : Int) :: Uw80.ints (Uw80.turned z.row pl)) := by
        show (match (Uw80.turns z.mode z.k z.row.length)[i]? with | none => (z, [-2]) | some p => ({ z with row := Uw80.turned z.row p }, (Uw80.ones (Uw80.turned z.row p) : Int) :: Uw80.ints (Uw80.turned z.row p))) = _
        rw [hx]
      rw [es] at kk
      refine ⟨_, rfl, c, C, dx, _, _, rfl, O.obj, T.cl, T.nR, cf_row _ _ _ _, _, rfl, c, C, dx, _, _, rfl, O.obj, T.cl, T.nT, cf_turns _ _ _ _, _, rfl, pt, _, _, V.ref q, rfl, rfl, SqL.of O.lst, atI_nat (by rw [List.getElem?_map, hq]; rfl),
        pr, q, z.row, pl, rfl, O.row, hql, G.n10, G.bit, fun H1 r S1 hr1 hrl => ?_⟩
      have O1 := O.kept S1
      refine ⟨_, rfl, c, C, dx, _, rfl, O1.obj, T.cl, T.nR, (by show 4 < 1000; decide), ?_⟩
      have e1 : putF "row" (V.ref r) (cf z.mode z.k pr pt) = cf z.mode z.k r pt := cf_putRow _ _ _ _ _
      rw [e1]
      have ncr : r ≠ c := fun e => by rw [e, O.obj] at hr1; cases hr1
      have O2 : CoinsAt C (upd H1 c (.ins C dx (cf z.mode z.k r pt))) c { z with row := Uw80.turned z.row pl } dx r pt as := by
        refine ⟨upd_same, ?_, ?_, ?_⟩
        · rw [upd_ne ncr]
          exact hrl
        · rw [upd_ne (ne_of O1.lst O1.obj (by intro e; cases e))]
          exact O1.lst
        · show Nls Free _ as (Uw80.turns z.mode z.k (Uw80.turned z.row pl).length)
          rw [Cm.turned_len]
          refine nls_imp O1.turns fun p o e _ => ⟨?_, rfl⟩
          rw [upd_ne (ne_of e O1.obj (by intro q; cases q))]
          exact e
      have hbit := (Cm.turned_ok (p := pl) ⟨rfl, G.bit⟩).bit
      have K2 : Kept c H (upd H1 c (.ins C dx (cf z.mode z.k r pt))) := fun b o e hb => by
        rw [upd_ne hb]
        exact S1 _ _ e
      refine ⟨_, rfl, c, C, dx, _, _, rfl, O2.obj, T.cl, T.nR, cf_row _ _ _ _, r, (Uw80.turned z.row pl).map fun (n : Nat) => (n : Int), rfl, SqL.of (by rw [← nV_ints]; exact O2.row), (by show 1 ≤ sizeLine; decide), fun t ht => ?_⟩
      rw [Cm.sum_ones hbit]
      have S3 : Same (upd H1 c (.ins C dx (cf z.mode z.k r pt))) (upd (upd H1 c (.ins C dx (cf z.mode z.k r pt))) t (.lst [V.int (Uw80.ones (Uw80.turned z.row pl) : Int)])) := same_new (Same.refl _) ht
      refine ⟨_, rfl, c, C, dx, _, _, rfl, S3 _ _ O2.obj, T.cl, T.nR, cf_row _ _ _ _, t, r, _, _, rfl, rfl, upd_same, S3 _ _ O2.row, ?_, fun p hp => ?_⟩
      · rw [nV_len]
        show 1 + (Uw80.turned z.row pl).length ≤ sizeLine
        rw [Cm.turned_len]
        exact sz10 (by have := G.n10; omega)
      · have S4 := same_new (o := HO.lst ([V.int (Uw80.ones (Uw80.turned z.row pl) : Int)] ++ nV (Uw80.turned z.row pl))) S3 hp
        refine kk _ p ⟨dx, r, pt, as, O2.kept S4, Sb r hr1, Va.2⟩ (fun b o e hb => S4 _ _ (K2 b o e hb)) ?_ ?_
        · have h1 := S3.free hp
          have nc : p ≠ c := fun e => by rw [e, upd_same] at h1; cases h1
          rw [upd_ne nc] at h1
          exact S1.free h1
        · rw [upd_same]
          show _ = some (HO.lst (V.int (Uw80.ones (Uw80.turned z.row pl) : Int) :: iV (Uw80.ints (Uw80.turned z.row pl))))
          rw [iV_ints]
          rfl
    · rw [decide_eq_false hi]
      refine iteT ⟨(by show 1 ≤ sizeLine; decide), fun t ht => ?_⟩
      have S1 : Same H (upd H t (.lst [V.int (-2)])) := same_new (Same.refl H) ht
      have es : Uw80.step z (.turn i) = (z, [-2]) := by
        show (match (Uw80.turns z.mode z.k z.row.length)[i]? with | none => (z, [-2]) | some p => ({ z with row := Uw80.turned z.row p }, (Uw80.ones (Uw80.turned z.row p) : Int) :: Uw80.ints (Uw80.turned z.row p))) = _
        rw [List.getElem?_eq_none (by omega)]
      rw [es] at kk
      exact kk _ t ⟨dx, pr, pt, as, O.kept S1, Va⟩ (Same.keptBut S1) ht upd_same
end
end Cn
set_option Elab.async false
set_option maxRecDepth 100000
set_option maxHeartbeats 4000000
namespace Cn
open PySem PySem.Spec PyProof.Rows L2
theorem cf_putMode (m k m' : Nat) (pr pt : Addr) : putF "mode" (.int (m' : Int)) (cf m k pr pt) = cf m' k pr pt := by
  unfold cf
  rw [putF_same]
theorem cf_putK (m k k' : Nat) (pr pt : Addr) : putF "k" (.int (k' : Int)) (cf m k pr pt) = cf m k' pr pt := by
  unfold cf
  rw [putF_other (by decide +kernel), putF_same]
theorem cf_putTurns (m k : Nat) (pr pt q : Addr) : putF "turns" (.ref q) (cf m k pr pt) = cf m k pr q := by
  unfold cf
  rw [putF_other (by decide +kernel), putF_other (by decide +kernel), putF_other (by decide +kernel), putF_same]
theorem bits_iff {l : List Nat} : bits l = true ↔ ∀ c ∈ l, c ≤ 1 := by
  unfold bits
  rw [List.all_eq_true]
  exact ⟨fun h c hc => of_decide_eq_true (h c hc), fun h c hc => decide_eq_true (h c hc)⟩
theorem lies_iff {m k : Nat} {l : List Nat} : ¬ (2 < m ∨ l.length < 1 ∨ 10 < l.length ∨ l.any (fun c => decide (1 < c)) = true ∨ k < 1 ∨ l.length < k) ↔ Lies m k l := by
  have e : bits l = true ↔ ¬ l.any (fun c => decide (1 < c)) = true := by
    rw [bits_iff, List.any_eq_true]
    constructor
    · rintro h ⟨c, hc, q⟩
      have := h c hc
      have := of_decide_eq_true q
      omega
    · intro h c hc
      apply Classical.byContradiction
      intro q
      exact h ⟨c, hc, decide_eq_true (by omega)⟩
  unfold Lies
  rw [e]
  constructor
  · intro h
    refine ⟨?_, ?_, ?_, fun q => h (.inr (.inr (.inr (.inl q)))), ?_, ?_⟩
    · apply Classical.byContradiction; intro q; exact h (.inl (by omega))
    · apply Classical.byContradiction; intro q; exact h (.inr (.inl (by omega)))
    · apply Classical.byContradiction; intro q; exact h (.inr (.inr (.inl (by omega))))
    · apply Classical.byContradiction; intro q; exact h (.inr (.inr (.inr (.inr (.inl (by omega))))))
    · apply Classical.byContradiction; intro q; exact h (.inr (.inr (.inr (.inr (.inr (by omega))))))
  · rintro ⟨h1, h2, h3, h4, h5, h6⟩ (q | q | q | q | q | q)
    · omega
    · omega
    · omega
    · exact h4 q
    · omega
    · omega
theorem step_lies {z : Uw80.Coins} {m k : Nat} {l : List Nat} (h : Lies m k l) : Uw80.step z (.coins m k l) = (⟨m, k, l⟩, [((Uw80.turns m k l.length).length : Int)]) := by
  show (if 2 < m ∨ l.length < 1 ∨ 10 < l.length ∨ l.any (fun c => decide (1 < c)) = true ∨ k < 1 ∨ l.length < k then (z, [-1]) else (⟨m, k, l⟩, [((Uw80.turns m k l.length).length : Int)])) = _
  rw [if_neg (lies_iff.mpr h)]
theorem step_lies_not {z : Uw80.Coins} {m k : Nat} {l : List Nat} (h : ¬ Lies m k l) : Uw80.step z (.coins m k l) = (z, [-1]) := by
  show (if 2 < m ∨ l.length < 1 ∨ 10 < l.length ∨ l.any (fun c => decide (1 < c)) = true ∨ k < 1 ∨ l.length < k then (z, [-1]) else (⟨m, k, l⟩, [((Uw80.turns m k l.length).length : Int)])) = _
  rw [if_pos (Classical.byContradiction fun q => h (lies_iff.mp q))]
abbrev i2 : List (Str × V) := [("mode", .int 0), ("k", .int 1)]
abbrev i3 (r : Addr) : List (Str × V) := [("mode", .int 0), ("k", .int 1), ("row", .ref r)]
def spLay (C : Addr) : Sp := fun vs H Q E => ∃ (m k : Nat) (a : Addr) (l : List Nat), H a = some (.lst (nV l)) ∧ l.length ≤ 30 ∧ spCall C [.int m, .int k, .ref a] (.coins m k l) vs H Q E
def spInit (C : Addr) : Sp := fun vs H Q _ => ∃ (c dx : Addr), vs = [.ref c] ∧ H c = some (.ins C dx []) ∧ ∀ H' : Hp, IsCoins C H' c Uw80.init → Kept c H H' → Q .non H'
section
variable {P : Program} {w : World} {K : PySem.W.Frag} {mg : Str → Option Value} {base : Heap}
theorem scLay : FnScope ["self", "mode", "k", "row"] ["self", "mode", "k", "row"] (defScope sLay) := ⟨rfl, rfl, rfl, by decide +kernel, rfl, by decide +kernel, by decide +kernel⟩
theorem ok_lay {f fC fT C : Addr} {fd fdC fdT : FuncData} {t1 : Tok} (F : Fun K "lay" "Coins.lay" sLay f fd) (T : Txt K C) (m1 : mg "NOT_COINS" = some (.int (-1) t1)) (hlen : mg "len" = none) (hlist : mg "list" = none)
    (GC : FnOk P w K mg base CX0 2 fC fdC ["mode", "k", "row"] spCan) (mgC : mg "can_lie" = some (.ref fC)) (kpC : PySem.W.keepIn K (.ref fC) = true) (bC : Binds K fdC ["mode", "k", "row"] [])
    (GT : FnOk P w K mg base CX0 3 fT fdT ["mode", "k", "coins"] spTurns) (mgT : mg "turns_by" = some (.ref fT)) (kpT : PySem.W.keepIn K (.ref fT) = true) (bT : Binds K fdT ["mode", "k", "coins"] []) :
    FnOk P w K mg base CX0 4 f fd ["self", "mode", "k", "row"] (spLay C) := by
  refine F.ok scLay (fun vs H Q E h => ?_) (fun cdv A outer s H vs Q E hr h => ?_)
  · obtain ⟨m, k, a, l, _, _, H0, c, z, rfl, _⟩ := h
    rfl
  · obtain ⟨m, k, a, l, ha, hl, H0, c, z, rfl, ⟨dx, pr, pt, as, O, Va⟩, Sb, G, kk⟩ := h
    have hr2 : Room 2 _ := hr.mono (by decide)
    refine ⟨_, pss_cons (ps_if (pt_not (pt_truth (pe_call GC hr2 rfl mgC kpC bC .nil pass0 (pa_cons (pv 1) (pa_cons (pv 2) (pa_cons (pv 3) pa_nil)))) (fun _ => rfl))) (pss_one (ps_ret (pe_lst (pa_cons (pe_gi rfl m1) pa_nil)))) pss_nil)
      (pss_cons (ps_fld (pv 0) (pv 1) rfl)
      (pss_cons (ps_fld (pv 0) (pv 2) rfl)
      (pss_cons (ps_fld (pv 0) (pe_callTy call_list_of (by rfl) hlist PyProof.Rows.boot_list (pa_cons (pv 3) pa_nil)) rfl)
      (pss_cons (ps_fld (pv 0) (pe_call GT hr rfl mgT kpT bT .nil pass0 (pa_cons (pv 1) (pa_cons (pv 2) (pa_cons (pe_callB call_len_seq (by rfl) hlen PySem.boot_len (pa_cons (pv 3) pa_nil)) pa_nil)))) rfl)
      (pss_one (ps_ret (pe_lst (pa_cons (pe_callB call_len_seq (by rfl) hlen PySem.boot_len (pa_cons (pe_fld (pv 0) rfl) pa_nil)) pa_nil)))))))), ?_⟩
    refine ⟨_, rfl, _, rfl, _, rfl, m, k, a, l, rfl, ha, hl, fun H1 S1 => ⟨_, rfl, ?_⟩⟩
    have O1 := O.kept S1
    have ha1 := S1 _ _ ha
    by_cases hq : Lies m k l
    · rw [step_lies hq] at kk
      rw [decide_eq_true hq]
      refine iteF ?_
      have nac : a ≠ c := ne_of ha1 O1.obj (by intro e; cases e)
      -- mode, k
      refine ⟨_, rfl, _, rfl, c, C, dx, _, rfl, O1.obj, T.cl, T.nM, (by show 4 < 1000; decide), ?_⟩
      have e1 : putF "mode" (V.int (m : Int)) (cf z.mode z.k pr pt) = cf m z.k pr pt := cf_putMode _ _ _ _ _
      rw [e1]
      refine ⟨_, rfl, _, rfl, c, C, dx, _, rfl, upd_same, T.cl, T.nK, (by show 4 < 1000; decide), ?_⟩
      have e2 : putF "k" (V.int (k : Int)) (cf m z.k pr pt) = cf m k pr pt := cf_putK _ _ _ _ _
      rw [e2, upd_upd]
      -- row
      have ha2 : (upd H1 c (.ins C dx (cf m k pr pt))) a = some (.lst (nV l)) := by rw [upd_ne nac]; exact ha1
      refine ⟨_, rfl, a, _, rfl, .inl (SqL.of ha2), fun r hr2 => ?_⟩
      have nrc : r ≠ c := fun e => by rw [e, upd_same] at hr2; cases hr2
      refine ⟨_, rfl, c, C, dx, _, rfl, upd_keep upd_same hr2, T.cl, T.nR, (by show 4 < 1000; decide), ?_⟩
      have e3 : putF "row" (V.ref r) (cf m k pr pt) = cf m k r pt := cf_putRow _ _ _ _ _
      rw [e3]
      generalize hH4 : upd (upd (upd H1 c (.ins C dx (cf m k pr pt))) r (.lst (nV l))) c (.ins C dx (cf m k r pt)) = H4
      have c4 : H4 c = some (.ins C dx (cf m k r pt)) := by rw [← hH4, upd_same]
      have r4 : H4 r = some (.lst (nV l)) := by rw [← hH4, upd_ne nrc, upd_same]
      have r1 : H1 r = none := by rw [upd_ne nrc] at hr2; exact hr2
      have k4 : Kept c H H4 := fun b o e hb => by
        rw [← hH4, upd_ne hb]
        refine upd_keep ?_ hr2
        rw [upd_ne hb]
        exact S1 _ _ e
      have a4 : H4 a = some (.lst (nV l)) := k4 _ _ ha nac
      -- turns
      refine ⟨_, rfl, _, rfl, _, rfl, a, _, rfl, .inl (SqL.of a4), ?_⟩
      rw [nV_len]
      refine ⟨m, k, l.length, rfl, hq.1, hq.2.2.2.2.1, hq.2.2.2.2.2, hq.2.2.1, fun H5 p S5 hp5 L5 => ?_⟩
      obtain ⟨bs, hbs, N5⟩ := L5
      refine ⟨_, rfl, c, C, dx, _, rfl, S5 _ _ c4, T.cl, T.nT, (by show 4 < 1000; decide), ?_⟩
      have e4 : putF "turns" (V.ref p) (cf m k r pt) = cf m k r p := cf_putTurns _ _ _ _ _
      rw [e4]
      have npc : p ≠ c := fun e => by rw [e, c4] at hp5; cases hp5
      have O6 : CoinsAt C (upd H5 c (.ins C dx (cf m k r p))) c ⟨m, k, l⟩ dx r p bs := by
        refine ⟨upd_same, ?_, ?_, nls_imp N5 fun q o e1 e2 => ⟨?_, rfl⟩⟩
        · rw [upd_ne nrc]
          exact S5 _ _ r4
        · rw [upd_ne npc]
          exact hbs
        · have nqc : q ≠ c := fun e => by rw [e, c4] at e2; cases e2
          rw [upd_ne nqc]
          exact e1
      have K6 : Kept c H (upd H5 c (.ins C dx (cf m k r p))) := fun b o e hb => by
        rw [upd_ne hb]
        exact S5 _ _ (k4 b o e hb)
      refine ⟨_, rfl, c, C, dx, _, _, rfl, O6.obj, T.cl, T.nT, cf_turns _ _ _ _, p, _, rfl, .inl (SqL.of O6.lst), (by show 1 ≤ sizeLine; decide), fun t ht => ?_⟩
      have S7 : Same (upd H5 c (.ins C dx (cf m k r p))) (upd (upd H5 c (.ins C dx (cf m k r p))) t (.lst [V.int ((bs.map V.ref).length : Int)])) := same_new (Same.refl _) ht
      have new4 : ∀ b, H4 b = none → H0 b = none := fun b hb => Sb b (by
        cases e : H b with
        | none => rfl
        | some o =>
          have nb : b ≠ c := fun q => by rw [q, c4] at hb; cases hb
          have := k4 b o e nb
          rw [hb] at this
          cases this)
      refine kk _ t ⟨dx, r, p, bs, O6.kept S7, Sb r (S1.free r1), new4 p hp5, fun b hb => new4 b (nls_mem N5 b hb)⟩ (fun b o e hb => S7 _ _ (K6 b o e hb)) ?_ ?_
      · have ntc : t ≠ c := fun e => by rw [e, upd_same] at ht; cases ht
        cases e : H t with
        | none => rfl
        | some o =>
          have := K6 t o e ntc
          rw [ht] at this
          cases this
      · rw [upd_same, List.length_map, nls_len N5]
        rfl
    · rw [step_lies_not hq] at kk
      rw [decide_eq_false hq]
      refine iteT ⟨(by show 1 ≤ sizeLine; decide), fun t ht => ?_⟩
      have S2 : Same H (upd H1 t (.lst [V.int (-1)])) := same_new S1 ht
      exact kk _ t ⟨dx, pr, pt, as, O.kept S2, Va⟩ (Same.keptBut S2) (S1.free ht) upd_same
theorem scInit : FnScope ["self"] ["self"] (defScope sInit) := ⟨rfl, rfl, rfl, by decide +kernel, rfl, by decide +kernel, by decide +kernel⟩
theorem ok_init {f fT C : Addr} {fd fdT : FuncData} {t0 : Tok} (F : Fun K "__init__" "Coins.__init__" sInit f fd) (T : Txt K C) (m0 : mg "ANY_PLACES" = some (.int 0 t0)) (hlen : mg "len" = none)
    (GT : FnOk P w K mg base CX0 3 fT fdT ["mode", "k", "coins"] spTurns) (mgT : mg "turns_by" = some (.ref fT)) (kpT : PySem.W.keepIn K (.ref fT) = true) (bT : Binds K fdT ["mode", "k", "coins"] []) :
    FnOk P w K mg base CX0 4 f fd ["self"] (spInit C) := by
  refine F.ok scInit (fun vs H Q E h => ?_) (fun cdv A outer s H vs Q E hr h => ?_)
  · obtain ⟨c, dx, rfl, _⟩ := h
    rfl
  · obtain ⟨c, dx, rfl, hc, kk⟩ := h
    refine ⟨_, pss_cons (ps_fld (pv 0) (pe_gi rfl m0) rfl)
      (pss_cons (ps_fld (pv 0) pe_int rfl)
      (pss_cons (ps_fld (pv 0) (pe_lst (pa_cons pe_int pa_nil)) rfl)
      (pss_one (ps_fld (pv 0) (pe_call GT hr rfl mgT kpT bT .nil pass0 (pa_cons (pe_fld (pv 0) rfl) (pa_cons (pe_fld (pv 0) rfl) (pa_cons (pe_callB call_len_seq (by rfl) hlen PySem.boot_len (pa_cons (pe_fld (pv 0) rfl) pa_nil)) pa_nil)))) rfl)))), ?_⟩
    refine ⟨_, rfl, c, C, dx, _, rfl, hc, T.cl, T.nM, (by show 0 < 1000; decide), ?_⟩
    refine ⟨_, rfl, c, C, dx, _, rfl, upd_same, T.cl, T.nK, (by show 1 < 1000; decide), ?_⟩
    rw [upd_upd]
    have e2 : putF "k" (V.int 1) (putF "mode" (V.int 0) []) = i2 := by
      show putF "k" (V.int 1) [(("mode" : Str), V.int 0)] = _
      rw [putF_other (by decide +kernel)]
      rfl
    rw [e2]
    refine ⟨(by show 1 ≤ sizeLine; decide), fun r hr2 => ?_⟩
    have nrc : r ≠ c := fun e => by rw [e, upd_same] at hr2; cases hr2
    refine ⟨_, rfl, c, C, dx, _, rfl, upd_keep upd_same hr2, T.cl, T.nR, (by show 2 < 1000; decide), ?_⟩
    have e3 : putF "row" (V.ref r) i2 = (i3 r) := by
      rw [putF_other (by decide +kernel), putF_other (by decide +kernel)]
      rfl
    rw [e3]
    generalize hH4 : upd (upd (upd H c (.ins C dx i2)) r (.lst [V.int 0])) c (.ins C dx (i3 r)) = H4
    have c4 : H4 c = some (.ins C dx (i3 r)) := by rw [← hH4, upd_same]
    have r4 : H4 r = some (.lst [V.int 0]) := by rw [← hH4, upd_ne nrc, upd_same]
    have k4 : Kept c H H4 := fun b o e hb => by
      rw [← hH4, upd_ne hb]
      refine upd_keep ?_ hr2
      rw [upd_ne hb]
      exact e
    have l1 : (i3 r).lookup ("mode" : Str) = some (V.int 0) := List.lookup_cons_self
    have l2 : (i3 r).lookup ("k" : Str) = some (V.int 1) := by
      rw [look_ne (by decide +kernel), List.lookup_cons_self]
    have l3 : (i3 r).lookup ("row" : Str) = some (V.ref r) := by
      rw [look_ne (by decide +kernel), look_ne (by decide +kernel), List.lookup_cons_self]
    refine ⟨_, rfl, c, C, dx, _, _, rfl, c4, T.cl, T.nM, l1, _, rfl, c, C, dx, _, _, rfl, c4, T.cl, T.nK, l2, _, rfl, c, C, dx, _, _, rfl, c4, T.cl, T.nR, l3, r, _, rfl, .inl (SqL.of r4), ?_⟩
    refine ⟨0, 1, 1, rfl, by decide, by decide, by decide, by decide, fun H5 p S5 hp5 L5 => ?_⟩
    obtain ⟨bs, hbs, N5⟩ := L5
    refine ⟨_, rfl, c, C, dx, _, rfl, S5 _ _ c4, T.cl, T.nT, (by show 3 < 1000; decide), ?_⟩
    have e4 : putF "turns" (V.ref p) (i3 r) = cf 0 1 r p := by
      rw [putF_other (by decide +kernel), putF_other (by decide +kernel), putF_other (by decide +kernel)]
      rfl
    rw [e4]
    have npc : p ≠ c := fun e => by rw [e, c4] at hp5; cases hp5
    refine kk _ ⟨dx, r, p, bs, upd_same, ?_, ?_, nls_imp N5 fun q o e1 e2 => ⟨?_, rfl⟩⟩ (fun b o e hb => ?_)
    · rw [upd_ne nrc]
      exact S5 _ _ r4
    · rw [upd_ne npc]
      exact hbs
    · have nqc : q ≠ c := fun e => by rw [e, c4] at e2; cases e2
      rw [upd_ne nqc]
      exact e1
    · rw [upd_ne hb]
      exact S5 _ _ (k4 b o e hb)
end
end Cn
set_option Elab.async false
set_option maxRecDepth 100000
set_option maxHeartbeats 4000000
/-! A dict of the module's top, ints to ints, read by an index. -/
namespace Cn
open PySem PySem.Spec PyProof.Rows L2 PyProof.V
inductive Ent : List DictEntry → List (Int × Int) → Prop
  | nil : Ent [] []
  | cons {k v : Int} {t u : Tok} {es : List DictEntry} {D : List (Int × Int)} : Ent es D → Ent (⟨hashInt k, .int k t, .int v u⟩ :: es) ((k, v) :: D)
structure TopD (K : PySem.W.Frag) (d : Addr) (D : List (Int × Int)) : Prop where
  sys : (d == sysModules) = false
  ex : ∃ (es : List DictEntry) (ep : Nat), K.lookup d = some ⟨.type "dict", none, .dict es.toArray ep, #[]⟩ ∧ Ent es D
  nd : (D.map (·.1)).Nodup
def pD (D : List (Int × Int)) : List (PyData × PyData) := D.map fun p => (PyData.int p.1, PyData.int p.2)
theorem look_pD {k v : Int} : ∀ {D : List (Int × Int)}, D.lookup k = some v → PySem.Spec.lookup (PyData.int k) (pD D) = some (PyData.int v)
  | [], h => by simp at h
  | (i, z) :: D, h => by
    show (if same (PyData.int i) (PyData.int k) = true then some (PyData.int z) else PySem.Spec.lookup (PyData.int k) (pD D)) = _
    rw [same_int]
    by_cases e : i = k
    · subst e
      rw [List.lookup_cons_self] at h
      rw [decide_eq_true rfl, if_pos rfl, Option.some.inj h]
    · rw [decide_eq_false e, if_neg Bool.false_ne_true]
      rw [List.lookup_cons, beq_eq_false_iff_ne.mpr (fun q => e q.symm)] at h
      exact look_pD h
theorem ent_keys {prog : Program} {w : World} : ∀ {es : List DictEntry} {D : List (Int × Int)}, Ent es D → ∃ kvs : List (Int × Value), Pairs (intKind prog w) es kvs ∧ kvs.map (·.1) = D.map (·.1) ∧ FlatPairs PyData.int kvs (pD D) ∧ ∀ e ∈ es, ∃ k, (intKind prog w).is k e.key = true ∧ e.hash = (intKind prog w).hash k
  | _, _, .nil => ⟨[], .nil, rfl, .nil, fun _ h => by cases h⟩
  | _, _, @Ent.cons k v t u es D h => by
    obtain ⟨kvs, h1, h2, h3, h4⟩ := ent_keys (prog := prog) (w := w) h
    refine ⟨(k, .int v u) :: kvs, .cons (intKind_is prog w k t) rfl h1, ?_, .cons (PyProof.V.Flat.int v u) h3, fun e he => ?_⟩
    · rw [List.map_cons, List.map_cons, h2]
    · rcases List.mem_cons.mp he with rfl | he
      · exact ⟨k, intKind_is prog w k t, rfl⟩
      · exact h4 e he
theorem TopD.tab {K : PySem.W.Frag} {d : Addr} {D : List (Int × Int)} (T : TopD K d D) {prog : Program} {w : World} {h : Heap} (KX : K.In h) : IntTab prog w h d (pD D) := by
  obtain ⟨es, ep, l, e⟩ := T.ex
  obtain ⟨kvs, h1, h2, h3, h4⟩ := ent_keys (prog := prog) (w := w) e
  refine TabAt.ofObj T.sys (KX _ _ l) ⟨es.toArray, ep, ⟨rfl, rfl, rfl⟩, rfl, fun x hx => h4 x (by simpa using hx), by simpa using h1, ?_⟩ h3
  rw [h2]
  exact T.nd
section
variable {X : Cx}
def rIxD (K : PySem.W.Frag) : R2 := fun x y H Q => ∃ d D i v, x = .ref d ∧ y = .int i ∧ TopD K d D ∧ D.lookup i = some v ∧ Q (.int v) H
theorem ix_top : IxR X (rIxD X.K) := by
  intro value slice pins s σ H x y v u Q I rx ry h hs
  obtain ⟨d, D, i, z, rfl, rfl, T, hl, q⟩ := h
  cases rx
  obtain ⟨t, rfl⟩ := ry
  obtain ⟨lo, kvs, hd, hf⟩ := T.tab (prog := X.prog) (w := X.w) I.kIn
  obtain ⟨v, hv, hfl⟩ := hf.of_lookup same_int (look_pD hl)
  obtain ⟨t', rfl⟩ := PyProof.V.Flat.int_inv hfl
  exact subscriptTail_builtinR (x := .int z t') hd.typeIs slot_dict_getitem.lookup
    (wpAny_getItem_of (Q := fun r s' => r = .int z t' ∧ EP X pins σ Q r s') (intKind_is X.prog X.w i t) hd.mapOf hv ⟨rfl, .int z, H, I.tok _, ⟨t', rfl⟩, q⟩) hs
end
end Cn
set_option Elab.async false
set_option maxRecDepth 100000
set_option maxHeartbeats 4000000
/-! Rows as numbers. -/
namespace Cn
open PySem PySem.Spec PyProof.Rows L2
abbrev sNum : Stmt := top 8
abbrev sRowOf : Stmt := top 9
abbrev sChg : Stmt := top 10
def spNum : Sp := fun vs H Q _ => ∃ (a : Addr) (l : List Nat), vs = [.ref a] ∧ H a = some (.lst (nV l)) ∧ l.length ≤ 10 ∧ (∀ c ∈ l, c ≤ 1) ∧ Q (.int (Uw80.code l : Nat)) H
def spRowOf : Sp := fun vs H Q _ => ∃ (x n : Nat), vs = [.int x, .int n] ∧ n ≤ 10 ∧
  ∀ (H' : Hp) (p : Addr), Same H H' → H p = none → H' p = some (.lst (nV (Uw80.rowOf n x))) → Q (.ref p) H'
def spChg : Sp := fun vs H Q _ => ∃ (a : Addr) (pl : List Nat) (n : Nat), vs = [.ref a, .int n] ∧ H a = some (.lst (nV pl)) ∧ n ≤ 10 ∧ Cm.Rising n pl ∧
  ∀ H' : Hp, Same H H' → Q (.int (Uw80.flip n pl : Nat)) H'
/-- ^ of two numbers that are not below 0 -/
def rXor : R2 := fun x y H Q => ∃ i j : Nat, x = .int i ∧ y = .int j ∧ Q (.int ((i ^^^ j : Nat) : Int)) H
theorem xorE (i j : Nat) : Builtin.bitXor (i : Int) (j : Int) = ((i ^^^ j : Nat) : Int) := by
  rw [Bits.bitXor_pp (Int.natCast_nonneg _) (Int.natCast_nonneg _), Int.toNat_natCast, Int.toNat_natCast]
theorem op_xorN {X : Cx} : OpR X (binaryOp .BitXor) rXor := by
  intro pins s σ H x y v u Q I rx ry h
  obtain ⟨i, j, rfl, rfl, q⟩ := h
  refine op_xor pins s σ H _ _ v u Q I rx ry ⟨_, _, rfl, rfl, ?_⟩
  show Q (.int (Builtin.bitXor (i : Int) (j : Int))) H
  rw [xorE]
  exact q
theorem bitE (x k : Nat) : Builtin.bitAnd ((x : Int) / 2 ^ k) 1 = ((x / 2 ^ k % 2 : Nat) : Int) := by
  have e : (x : Int) / 2 ^ k = ((x / 2 ^ k : Nat) : Int) := by
    rw [Int.natCast_ediv, Int.natCast_pow]
    rfl
  rw [e, bitAnd_pp (Int.natCast_nonneg _) (by decide), Int.toNat_natCast]
  show (((x / 2 ^ k) &&& 1 : Nat) : Int) = _
  rw [Nat.and_one_is_mod]
section
variable {P : Program} {w : World} {K : PySem.W.Frag} {mg : Str → Option Value} {base : Heap}
theorem scNum : FnScope ["row", "number", "shown"] ["row"] (defScope sNum) := ⟨rfl, rfl, rfl, by decide +kernel, rfl, by decide +kernel, by decide +kernel⟩
theorem ok_num {f : Addr} {fd : FuncData} (F : Fun K "as_number" "as_number" sNum f fd) : FnOk P w K mg base CX0 1 f fd ["row"] spNum := by
  refine F.ok scNum (fun vs H Q E h => ?_) (fun cdv A outer s H vs Q E hr h => ?_)
  · obtain ⟨a, l, rfl, _⟩ := h
    rfl
  · obtain ⟨a, l, rfl, ha, hl, hb, kk⟩ := h
    refine ⟨_, pss_cons (ps_set (i := 1) scNum.nd rfl (Or.inl rfl) pe_int)
      (pss_cons (ps_for PassesOwn.never rfl (pi_list (pv 0)) (pg_name (i := 2) scNum.nd rfl (Or.inl rfl))
        (pss_one (ps_set (i := 1) scNum.nd rfl (Or.inl rfl) (pe_op op_add (pe_op op_mul (pv 1) pe_int) (pv 2)))))
      (pss_one (ps_ret (pv 1)))), ?_⟩
    refine ⟨_, rfl, a, rfl, ⟨_, SqL.of ha⟩, for_list (K := K) (a := a) (xs := nV l) (fun i σ H' => ∃ v : Option V, σ = [some (.ref a), some (.int (Uw80.code (l.take i) : Nat)), v] ∧ H' = H) ?_ ?_ ?_ ?_⟩
    · exact ⟨none, rfl, rfl⟩
    · rintro i σ H' hi ⟨v, rfl, rfl⟩
      exact SqL.of ha
    · rintro i y σ H' hi ⟨v, rfl, rfl⟩
      obtain ⟨x, hx, rfl⟩ := nV_of hi
      have lt : Uw80.code (l.take i) < 2 ^ 10 := by
        refine Nat.lt_of_lt_of_le (Cm.code_lt fun c hc => hb c (List.mem_of_mem_take hc)) (Nat.pow_le_pow_right (by decide) ?_)
        rw [List.length_take]
        omega
      have lt' : Uw80.code (l.take i) < 1024 := lt
      have e : ((Uw80.code (l.take i) : Nat) : Int) * 2 + (x : Int) = ((Uw80.code (l.take (i + 1)) : Nat) : Int) := by
        rw [Cm.take_snoc hx, Cm.code_snoc]
        omega
      refine ⟨_, rfl, _, _, rfl, rfl, .inl ⟨by omega, by omega⟩, _, rfl, _, _, rfl, rfl, some (.int (x : Int)), ?_, rfl⟩
      rw [← e]
      rfl
    · rintro σ H' ⟨v, rfl, rfl⟩
      rw [nV_len, List.take_length]
      exact ⟨_, rfl, kk⟩
theorem scRowOf : FnScope ["number", "coins", "place"] ["number", "coins"] (defScope sRowOf) := ⟨rfl, rfl, rfl, by decide +kernel, rfl, by decide +kernel, by decide +kernel⟩
theorem ok_rowOf {f : Addr} {fd : FuncData} (F : Fun K "as_row" "as_row" sRowOf f fd) (hrange : mg "range" = none) : FnOk P w K mg base CX0 1 f fd ["number", "coins"] spRowOf := by
  refine F.ok scRowOf (fun vs H Q E h => ?_) (fun cdv A outer s H vs Q E hr h => ?_)
  · obtain ⟨x, n, rfl, _⟩ := h
    rfl
  · obtain ⟨x, n, rfl, hn, kk⟩ := h
    refine ⟨_, pss_one (ps_ret (pe_lc (own := [("place", 2)]) rfl scRowOf.nd (pi_range1 rfl hrange (pa_cons (pv 1) pa_nil)) (blkOk_by (by show blkC ["number", "coins", "place"] (defScope sRowOf) _ [("place", 2)] = true; decide +kernel))
        (fun _ _ _ _ _ => pg_name (i := 2) scRowOf.nd rfl (Or.inl rfl)) (fun _ _ _ _ _ => pts_nil)
        (fun _ _ _ _ _ => pe_op op_and (pe_op op_shr (pv 0) (pe_op op_sub (pe_op op_sub (pv 1) pe_int) (pv 2))) pe_int))), ?_⟩
    refine ⟨_, rfl, _, rfl, by omega, by omega, fun D hD => ?_⟩
    refine lc_range (fun j H' => H' D = some (.lst (nV ((List.range j).map fun i => x / 2 ^ (n - 1 - i) % 2))) ∧ Same H H') ⟨upd_same, same_new (Same.refl H) hD⟩ ?_ ?_
    · rintro j H' hj ⟨hD', hS⟩
      rw [Int.toNat_natCast] at hj
      refine ⟨rfl, ?_⟩
      refine ⟨_, rfl, _, rfl, _, _, rfl, rfl, _, rfl, _, _, rfl, rfl, _, _, rfl, rfl, (by omega), _, _, rfl, rfl, _, hD', ?_, ?_, same_fresh hS hD⟩
      · rw [nV_len, List.length_map, List.length_range]
        exact sz10' (by omega)
      · rw [upd_same, List.range_succ, List.map_append, nV_app]
        have e : ((n : Int) - 1 - (0 + (j : Int))).toNat = n - 1 - j := by omega
        show some (HO.lst (_ ++ [V.int (Builtin.bitAnd ((x : Int) / 2 ^ ((n : Int) - 1 - (0 + (j : Int))).toNat) 1)])) = _
        rw [e, bitE]
        rfl
    · rintro H' ⟨hD', hS⟩
      rw [Int.toNat_natCast] at hD'
      exact kk H' D hS hD hD'
theorem scChg : FnScope ["places", "coins", "place"] ["places", "coins"] (defScope sChg) := ⟨rfl, rfl, rfl, by decide +kernel, rfl, by decide +kernel, by decide +kernel⟩
theorem ok_chg {f fN : Addr} {fd fdN : FuncData} (F : Fun K "change_at" "change_at" sChg f fd) (hrange : mg "range" = none)
    (GN : FnOk P w K mg base CX0 1 fN fdN ["row"] spNum) (mgN : mg "as_number" = some (.ref fN)) (kpN : PySem.W.keepIn K (.ref fN) = true) (bN : Binds K fdN ["row"] []) :
    FnOk P w K mg base CX0 2 f fd ["places", "coins"] spChg := by
  refine F.ok scChg (fun vs H Q E h => ?_) (fun cdv A outer s H vs Q E hr h => ?_)
  · obtain ⟨a, pl, n, rfl, _⟩ := h
    rfl
  · obtain ⟨a, pl, n, rfl, ha, hn, R, kk⟩ := h
    refine ⟨_, pss_one (ps_ret (pe_call GN hr rfl mgN kpN bN .nil pass0 (pa_cons (pe_lc (own := [("place", 2)]) rfl scChg.nd (pi_range1 rfl hrange (pa_cons (pv 1) pa_nil)) (blkOk_by (by show blkC ["places", "coins", "place"] (defScope sChg) _ [("place", 2)] = true; decide +kernel))
        (fun _ _ _ _ _ => pg_name (i := 2) scChg.nd rfl (Or.inl rfl)) (fun _ _ _ _ _ => pts_nil)
        (fun _ _ _ _ _ => pe_ifExp (pt_cmpR (r := rIn K false) op_in_seq (pv 2) (pv 0) rfl) pe_int pe_int)) pa_nil))), ?_⟩
    refine ⟨_, rfl, _, rfl, by omega, by omega, fun D hD => ?_⟩
    refine lc_range (fun j H' => H' D = some (.lst (nV ((List.range j).map fun i => if pl.contains i = true then 1 else 0))) ∧ Same H H') ⟨upd_same, same_new (Same.refl H) hD⟩ ?_ ?_
    · rintro j H' hj ⟨hD', hS⟩
      rw [Int.toNat_natCast] at hj
      have hlt : (nV ((List.range j).map fun i => if pl.contains i = true then 1 else 0)).length < sizeLine := by
        rw [nV_len, List.length_map, List.length_range]
        exact sz10' (by omega)
      refine ⟨rfl, ?_⟩
      refine ⟨_, rfl, _, rfl, a, _, rfl, .inl (SqL.of (hS _ _ ha)), rfl, flat_nV pl, _, rfl, ?_⟩
      show if inV (.int (0 + (j : Int))) (nV pl) = true then _ else _
      rw [Int.zero_add, inV_nV]
      cases e : pl.contains j with
      | true =>
        refine iteT ⟨_, hD', hlt, ?_, same_fresh hS hD⟩
        rw [upd_same, List.range_succ, List.map_append, nV_app]
        show _ = some (HO.lst (_ ++ nV [if pl.contains j = true then 1 else 0]))
        rw [e]
        rfl
      | false =>
        refine iteF ⟨_, hD', hlt, ?_, same_fresh hS hD⟩
        rw [upd_same, List.range_succ, List.map_append, nV_app]
        show _ = some (HO.lst (_ ++ nV [if pl.contains j = true then 1 else 0]))
        rw [e]
        rfl
    · rintro H' ⟨hD', hS⟩
      rw [Int.toNat_natCast] at hD'
      refine ⟨D, _, rfl, hD', ?_, fun c hc => ?_, ?_⟩
      · rw [List.length_map, List.length_range]
        exact hn
      · obtain ⟨i, _, rfl⟩ := List.mem_map.mp hc
        split <;> omega
      · rw [Cm.change_code R]
        exact kk H' hS
end
end Cn
set_option Elab.async false
set_option maxRecDepth 100000
set_option maxHeartbeats 4000000
/-! The search. -/
namespace Cn
open PySem PySem.Spec PyProof.Rows L2
abbrev sNeed : Stmt := top 11
/-- a table as a dict holds it -/
def dV (D : List (Nat × Nat)) : List (Key × V) := D.map fun p => (Sum.inl (p.1 : Int), V.int (p.2 : Int))
theorem dV_len (D : List (Nat × Nat)) : (dV D).length = D.length := by simp [dV]
theorem valV_dV (e : Nat) : ∀ (D : List (Nat × Nat)), valV (dV D) (Sum.inl (e : Int)) = (D.lookup e).map fun (j : Nat) => V.int (j : Int)
  | [] => rfl
  | (a, b) :: r => by
    have ih := valV_dV e r
    show valV ((Sum.inl (a : Int), V.int (b : Int)) :: dV r) (Sum.inl (e : Int)) = _
    by_cases h : e = a
    · subst h
      rw [valV_pos rfl, List.lookup_cons_self]
      rfl
    · have n1 : ¬ ((Sum.inl (a : Int) : Key), V.int (b : Int)).1 = Sum.inl (e : Int) := by
        intro q
        injection q with q
        omega
      rw [valV_neg n1, ih, List.lookup_cons, beq_eq_false_iff_ne.mpr h]
theorem put_dV {D : List (Nat × Nat)} {e : Nat} (j : Nat) (h : D.lookup e = none) : putK (dV D) (Sum.inl (e : Int)) (V.int (j : Int)) = dV (D ++ [(e, j)]) := by
  rw [putK_new _ (by rw [valV_dV, h]; rfl)]
  unfold dV
  rw [List.map_append]
  rfl
theorem dget {H : Hp} {p : Addr} {D : List (Nat × Nat)} {e j : Nat} (h : Rd H p (.dK (dV D))) (l : D.lookup e = some j) : DGet H p (.int (e : Int)) (some (V.int (j : Int))) :=
  .inl ⟨dV D, Sum.inl (e : Int), h, rfl, by rw [valV_dV, l]; rfl⟩
def spNeed : Sp := fun vs H Q _ => ∃ (a : Addr) (fs : List Nat) (n : Nat), vs = [.ref a] ∧ H a = some (.lst (nV fs)) ∧ n ≤ 10 ∧ (∀ f ∈ fs, f < 2 ^ n) ∧
  ∀ (H' : Hp) (p : Addr) (D : List (Nat × Nat)), Same H H' → H p = none → H' p = some (.dK (dV D)) → Cm.Far0 fs D → D.length ≤ 1024 → Q (.ref p) H'
theorem pow_le {n : Nat} (h : n ≤ 10) : 2 ^ n ≤ 1024 := Nat.le_trans (Nat.pow_le_pow_right (by decide) h) (by decide)
section
variable {P : Program} {w : World} {K : PySem.W.Frag} {mg : Str → Option Value} {base : Heap}
theorem scNeed : FnScope ["changes", "needed", "newest", "farther", "made", "change", "both"] ["changes"] (defScope sNeed) := ⟨rfl, rfl, rfl, by decide +kernel, rfl, by decide +kernel, by decide +kernel⟩
theorem ok_need {f : Addr} {fd : FuncData} (F : Fun K "turns_needed" "turns_needed" sNeed f fd) : FnOk P w K mg base CX0 1 f fd ["changes"] spNeed := by
  refine F.ok scNeed (fun vs H Q E h => ?_) (fun cdv A outer s H vs Q E hr h => ?_)
  · obtain ⟨a, fs, n, rfl, _⟩ := h
    rfl
  · obtain ⟨a, fs, n, rfl, ha, hn, hf, kk⟩ := h
    have hu := hu_of hr
    refine ⟨_, pss_cons (ps_set (i := 1) scNeed.nd rfl (Or.inl rfl) (pe_disp (pps_cons pe_int pe_int pps_nil) rfl rfl (by intro q; cases q) (by decide)))
      (pss_cons (ps_set (i := 2) scNeed.nd rfl (Or.inl rfl) (pe_lst (pa_cons pe_int pa_nil)))
      (pss_cons (ps_while PassesOwn.never (pt_truth (pv 2) (fun _ => rfl))
        (pss_cons (ps_set (i := 3) scNeed.nd rfl (Or.inl rfl) (pe_lst pa_nil))
        (pss_cons (ps_for PassesOwn.never rfl (pi_list (pv 2)) (pg_name (i := 4) scNeed.nd rfl (Or.inl rfl))
          (pss_one (ps_for PassesOwn.never rfl (pi_list (pv 0)) (pg_name (i := 5) scNeed.nd rfl (Or.inl rfl))
            (pss_cons (ps_set (i := 6) scNeed.nd rfl (Or.inl rfl) (pe_op op_xorN (pv 4) (pv 5)))
            (pss_one (ps_if (pt_cmp (pc_dnotin hu (pv 6) (pv 1)))
              (pss_cons (ps_dput hu (pv 1) (pv 6) (pe_op op_add (pe_dget hu (pv 1) (pv 4) (fun _ _ => rfl)) pe_int) rfl)
              (pss_one (ps_expr (pe_bm PySem.F.plainAttrs_list PySem.F.slot_list_append PySem.F.type_list_append mt_append (pv 3) (pa_cons (pv 6) pa_nil)))))
              pss_nil))))))
        (pss_one (ps_set (i := 2) scNeed.nd rfl (Or.inl rfl) (pv 3))))))
      (pss_one (ps_ret (pv 1))))), ?_⟩
    -- needed = {0: 0}; newest = [0]
    intro p hp
    refine ⟨upd_same, [(Sum.inl 0, V.int 0)], rfl, by decide, ?_⟩
    rw [upd_upd]
    show _
    refine ⟨(by show 1 ≤ sizeLine; decide), fun q0 hq0 => ?_⟩
    have p0 : (upd H p (.dK (mergeK [] [(Sum.inl 0, V.int 0)]))) p = some (.dK (dV [(0, 0)])) := upd_same
    have q0H : H q0 = none := by
      have : q0 ≠ p := fun e => by rw [e, upd_same] at hq0; cases hq0
      rw [upd_ne this] at hq0
      exact hq0
    refine ⟨fun m σ H' => ∃ (q : Addr) (D : List (Nat × Nat)) (l : List Nat) (d : Nat) (v3 v4 v5 v6 : Option V), σ = [some (.ref a), some (.ref p), some (.ref q), v3, v4, v5, v6] ∧ Same H H' ∧ H' p = some (.dK (dV D)) ∧
      H' q = some (.lst (nV l)) ∧ Cm.Lev fs d D l ∧ m = 2 * (1024 - D.length) + (if l = [] then 0 else 1), ⟨_, q0, [(0, 0)], [0], 0, none, none, none, none, rfl, same_new (same_new (Same.refl H) hp) hq0, upd_keep p0 hq0, upd_same, Cm.lev_0 fs, rfl⟩, ?_⟩
    rintro m σ H1 ⟨q, D0, l, d, v3, v4, v5, v6, rfl, S1, hp1, hq1, L, rfl⟩
    have npq : p ≠ q := ne_of hp1 hq1 (by intro e; cases e)
    have hlen0 : D0.length ≤ 1024 := Nat.le_trans (Cm.keys_len L.nd (L.klt hf)) (pow_le hn)
    refine ⟨_, rfl, !(nV l).isEmpty, Or.inl ⟨_, SqL.of hq1, rfl⟩, ?_⟩
    by_cases hl0 : l = []
    · subst hl0
      refine iteF ?_
      -- return needed
      exact ⟨_, rfl, kk H1 p D0 S1 hp hp1 L.done hlen0⟩
    have e0 : (!(nV l).isEmpty) = true := by
      cases l with
      | nil => exact absurd rfl hl0
      | cons x r => rfl
    rw [e0]
    refine iteT ⟨fun σ' H' => ∃ m', m' < 2 * (1024 - D0.length) + (if l = [] then 0 else 1) ∧ ∃ (q : Addr) (D : List (Nat × Nat)) (l : List Nat) (d : Nat) (v3 v4 v5 v6 : Option V), σ' = [some (.ref a), some (.ref p), some (.ref q), v3, v4, v5, v6] ∧ Same H H' ∧ H' p = some (.dK (dV D)) ∧
      H' q = some (.lst (nV l)) ∧ Cm.Lev fs d D l ∧ m' = 2 * (1024 - D.length) + (if l = [] then 0 else 1), fun σ' H' h => h, ?_⟩
    -- farther = []
    refine ⟨Nat.zero_le _, fun r hr1 => ?_⟩
    have nrp : r ≠ p := fun e => by rw [e, hp1] at hr1; cases hr1
    have nrq : r ≠ q := fun e => by rw [e, hq1] at hr1; cases hr1
    have hrH : H r = none := S1.free hr1
    have hp2 := upd_keep (o' := HO.lst []) hp1 hr1
    have hq2 := upd_keep (o' := HO.lst []) hq1 hr1
    have S2 : Same H (upd H1 r (.lst [])) := same_new S1 hr1
    have klt := L.klt hf
    refine ⟨_, rfl, q, rfl, ⟨_, SqL.of hq2⟩, for_list (K := K) (a := q) (xs := nV l) (fun i σ H2 => ∃ (D : List (Nat × Nat)) (far : List Nat) (v4 v5 v6 : Option V), σ = [some (.ref a), some (.ref p), some (.ref q), some (.ref r), v4, v5, v6] ∧ Same H H2 ∧
      H2 p = some (.dK (dV D)) ∧ H2 q = some (.lst (nV l)) ∧ H2 r = some (.lst (nV far)) ∧ Cm.Mid d D0 (fun e => ∃ b ∈ l.take i, e ∈ Cm.nbX fs b) D far) ?_ ?_ ?_ ?_⟩
    · exact ⟨D0, [], v4, v5, v6, rfl, S2, hp2, hq2, upd_same, Cm.Mid.start.congr fun e => by simp⟩
    · rintro i σ H2 hi ⟨D, far, v4, v5, v6, rfl, S3, hp3, hq3, hr3, M⟩
      exact SqL.of hq3
    · rintro i y σ H2 hi ⟨D, far, v4, v5, v6, rfl, S3, hp3, hq3, hr3, M⟩
      obtain ⟨mv, hm, rfl⟩ := nV_of hi
      have hml : mv ∈ l := List.mem_of_getElem? hm
      have dmv := (L.new mv).mp hml
      have mvlt : mv < 2 ^ n := Cm.reach_lt hf (Nat.two_pow_pos n) dmv.1
      refine ⟨_, rfl, a, rfl, ⟨_, SqL.of (S3 _ _ ha)⟩, for_list (K := K) (a := a) (xs := nV fs) (fun j σ H2 => ∃ (D : List (Nat × Nat)) (far : List Nat) (v5 v6 : Option V), σ = [some (.ref a), some (.ref p), some (.ref q), some (.ref r), some (.int (mv : Int)), v5, v6] ∧ Same H H2 ∧
        H2 p = some (.dK (dV D)) ∧ H2 q = some (.lst (nV l)) ∧ H2 r = some (.lst (nV far)) ∧ Cm.Mid d D0 (fun e => (∃ b ∈ l.take i, e ∈ Cm.nbX fs b) ∨ e ∈ Cm.nbX (fs.take j) mv) D far) ?_ ?_ ?_ ?_⟩
      · exact ⟨D, far, v5, v6, rfl, S3, hp3, hq3, hr3, M.congr fun e => by simp [Cm.nbX]⟩
      · rintro j σ H3 hj ⟨D, far, v5, v6, rfl, S4, hp4, hq4, hr4, M⟩
        exact SqL.of (S4 _ _ ha)
      · rintro j y σ H3 hj ⟨D, far, v5, v6, rfl, S4, hp4, hq4, hr4, M⟩
        obtain ⟨c, hc, rfl⟩ := nV_of hj
        have hcf : c ∈ fs := List.mem_of_getElem? hc
        have elt : mv ^^^ c < 2 ^ n := Nat.xor_lt_two_pow mvlt (hf c hcf)
        have grow : ∀ e, ((∃ b ∈ l.take i, e ∈ Cm.nbX fs b) ∨ e ∈ Cm.nbX (fs.take j) mv) ∨ e = mv ^^^ c ↔ (∃ b ∈ l.take i, e ∈ Cm.nbX fs b) ∨ e ∈ Cm.nbX (fs.take (j + 1)) mv := by
          intro e
          rw [Cm.take_snoc hc]
          unfold Cm.nbX
          rw [List.map_append, List.mem_append, or_assoc]
          simp
        -- both = made ^ change
        refine ⟨_, rfl, _, rfl, mv, c, rfl, rfl, ?_⟩
        refine ⟨_, rfl, _, rfl, p, _, rfl, DGet.k (k := Sum.inl ((mv ^^^ c : Nat) : Int)) hp4, _, rfl, ?_⟩
        rw [valV_dV]
        have old : Cm.Mid d D0 (fun e => (∃ b ∈ l.take i, e ∈ Cm.nbX fs b) ∨ e ∈ Cm.nbX (fs.take j) mv) D far := M
        cases e : D.lookup (mv ^^^ c) with
        | some j0 =>
          refine iteF ?_
          exact ⟨D, far, _, _, rfl, S4, hp4, hq4, hr4, (M.old (by rw [e]; intro z; cases z)).congr grow⟩
        | none =>
          refine iteT ?_
          have dlen : D.length ≤ 1024 := by
            refine Nat.le_trans (M.lt (N := 2 ^ n) L.nd klt fun e he => ?_) (pow_le hn)
            rcases he with ⟨b, hb, he⟩ | he
            · obtain ⟨c', hc', rfl⟩ := Cm.mem_nbX.mp he
              exact Nat.xor_lt_two_pow (Cm.reach_lt hf (Nat.two_pow_pos n) ((L.new b).mp (List.mem_of_mem_take hb)).1) (hf c' hc')
            · obtain ⟨c', hc', rfl⟩ := Cm.mem_nbX.mp he
              exact Nat.xor_lt_two_pow mvlt (hf c' (List.mem_of_mem_take hc'))
          have flen : far.length ≤ 1024 := by
            have := congrArg List.length M.eq
            rw [List.length_append, List.length_map] at this
            omega
          have lk := M.look L.nd ((L.mem mv d).mpr ⟨Nat.le_refl _, dmv⟩)
          -- needed[both] = needed[made] + 1
          have dp : DPut H3 p (V.int ((mv ^^^ c : Nat) : Int)) (V.int ((d : Int) + 1)) (upd H3 p (.dK (dV (D ++ [(mv ^^^ c, d + 1)])))) := by
            have e1 : ((d : Int) + 1) = ((d + 1 : Nat) : Int) := by omega
            rw [e1, ← put_dV (d + 1) e]
            exact DPut.k (k := Sum.inl ((mv ^^^ c : Nat) : Int)) hp4 (by rw [dV_len]; exact sz10' (by omega))
          refine ⟨_, rfl, _, rfl, p, V.int (d : Int), rfl, dget (.inl hp4) lk, _, _, rfl, rfl, _, rfl, _, rfl, p, _, rfl, dp, ?_⟩
          -- farther.append(both)
          have hr5 : (upd H3 p (.dK (dV (D ++ [(mv ^^^ c, d + 1)])))) r = some (.lst (nV far)) := by rw [upd_ne nrp]; exact hr4
          refine ⟨_, rfl, .inl ⟨rfl, _, SqL.of hr5⟩, _, rfl, r, _, _, rfl, rfl, hr5, (by rw [nV_len]; exact sz10' (by omega)), ?_⟩
          refine ⟨D ++ [(mv ^^^ c, d + 1)], far ++ [mv ^^^ c], _, _, rfl, same_fresh (same_fresh S4 hp) hrH, ?_, ?_, ?_, (M.add e).congr grow⟩
          · rw [upd_ne (Ne.symm nrp), upd_same]
          · rw [upd_ne (Ne.symm nrq), upd_ne (Ne.symm npq)]
            exact hq4
          · rw [upd_same, nV_app]
            rfl
      · rintro σ H3 ⟨D, far, v5, v6, rfl, S4, hp4, hq4, hr4, M⟩
        rw [nV_len, List.take_length] at M
        refine ⟨D, far, _, _, _, rfl, S4, hp4, hq4, hr4, M.congr fun e => ?_⟩
        rw [Cm.take_snoc hm]
        simp
    · rintro σ H2 ⟨D, far, v4, v5, v6, rfl, S3, hp3, hq3, hr3, M⟩
      rw [nV_len, List.take_length] at M
      have L' := L.next M
      have hlen1 : D.length ≤ 1024 := Nat.le_trans (Cm.keys_len L'.nd (L'.klt hf)) (pow_le hn)
      have hlen2 : D.length = D0.length + far.length := by
        have := congrArg List.length M.eq
        rw [List.length_append, List.length_map] at this
        exact this
      refine ⟨_, rfl, _, ?_, r, D, far, d + 1, _, _, _, _, rfl, S3, hp3, hr3, L', rfl⟩
      rw [if_neg hl0]
      by_cases hfe : far = []
      · subst hfe
        rw [if_pos rfl]
        rw [List.length_nil] at hlen2
        omega
      · rw [if_neg hfe]
        have := List.length_pos_iff.mpr hfe
        omega
end
end Cn
set_option Elab.async false
set_option maxRecDepth 100000
set_option maxHeartbeats 4000000
/-! The first plan. -/
namespace Cn
open PySem PySem.Spec PyProof.Rows L2
abbrev sNear : Stmt := top 12
abbrev sPlan : Stmt := top 13
def spNear : Sp := fun vs H Q _ => ∃ (x : Nat) (a p : Addr) (fs : List Nat) (D : List (Nat × Nat)) (j : Nat), vs = [.int x, .ref a, .ref p] ∧ H a = some (.lst (nV fs)) ∧ fs.length ≤ 1024 ∧ Rd H p (.dK (dV D)) ∧ Cm.Far0 fs D ∧ Cm.Dist (Cm.nbX fs) 0 x j ∧
  ∀ (H' : Hp) (q : Addr), Same H H' → H q = none → H' q = some (.lst (nV (Cm.near D fs x))) → Q (.ref q) H'
def spPlan : Sp := fun vs H Q _ => ∃ (x : Nat) (a : Addr) (fs : List Nat) (n d : Nat) (full : List Nat), vs = [.int x, .ref a] ∧ H a = some (.lst (nV fs)) ∧ fs.length ≤ 1024 ∧ n ≤ 10 ∧ (∀ f ∈ fs, f < 2 ^ n) ∧ Cm.Dist (Cm.nbX fs) 0 x d ∧
  Cm.firstPlan (Cm.nbX fs) 0 d x = some full ∧ ∀ (H' : Hp) (q : Addr), Same H H' → H q = none → H' q = some (.lst (nV full)) → full.length ≤ 1024 → Q (.ref q) H'
theorem rd_keep {H H' : Hp} {p : Addr} {o : HO} (h : Rd H p o) (S : Same H H') : Rd H' p o := by
  rcases h with h | ⟨u, h⟩
  · exact .inl (S _ _ h)
  · exact .inr ⟨u, S _ _ h⟩
theorem take_filter {p : Nat → Bool} (m : Nat) : (List.range (m + 1)).filter p = (List.range m).filter p ++ (if p m = true then [m] else []) := by
  rw [List.range_succ, List.filter_append]
  cases e : p m with
  | true => rw [List.filter_cons_of_pos e]; rfl
  | false => rw [List.filter_cons_of_neg (by rw [e]; exact Bool.false_ne_true)]; rfl
theorem sub_len : ∀ (a b : List Nat), a.Nodup → (∀ x ∈ a, x ∈ b) → a.length ≤ b.length
  | [], _, _, _ => Nat.zero_le _
  | x :: r, b, nd, h => by
    rw [List.nodup_cons] at nd
    have hx := h x (by simp)
    have := sub_len r (b.erase x) nd.2 fun y hy => by
      have ne : y ≠ x := fun e => nd.1 (by rw [← e]; exact hy)
      exact (List.mem_erase_of_ne ne).mpr (h y (by simp [hy]))
    rw [List.length_erase_of_mem hx] at this
    have := List.length_pos_of_mem hx
    rw [List.length_cons]
    omega
theorem far_lt {fs : List Nat} {D : List (Nat × Nat)} (F : Cm.Far0 fs D) {x d : Nat} (h : Cm.Dist (Cm.nbX fs) 0 x d) : d < D.length := by
  have := sub_len (List.range (d + 1)) (D.map (·.2)) List.nodup_range fun j hj => by
    have hj : j < d + 1 := List.mem_range.mp hj
    apply Classical.byContradiction
    intro q
    exact Cm.Dist.none_from (Cm.nbX fs) (d := j) (fun y hy => q (List.mem_map.mpr ⟨(y, j), (F.mem y j).mpr hy, rfl⟩)) d (by omega) x h
  rw [List.length_range, List.length_map] at this
  exact this
section
variable {P : Program} {w : World} {K : PySem.W.Frag} {mg : Str → Option Value} {base : Heap}
theorem scNear : FnScope ["left", "changes", "needed", "turn"] ["left", "changes", "needed"] (defScope sNear) := ⟨rfl, rfl, rfl, by decide +kernel, rfl, by decide +kernel, by decide +kernel⟩
theorem ok_near {f : Addr} {fd : FuncData} (F : Fun K "nearer_turns" "nearer_turns" sNear f fd) (hrange : mg "range" = none) (hlen : mg "len" = none) : FnOk P w K mg base CX0 1 f fd ["left", "changes", "needed"] spNear := by
  refine F.ok scNear (fun vs H Q E h => ?_) (fun cdv A outer s H vs Q E hr h => ?_)
  · obtain ⟨x, a, p, fs, D, j, rfl, _⟩ := h
    rfl
  · obtain ⟨x, a, p, fs, D, j, rfl, ha, hfl, hp, F0, hx, kk⟩ := h
    have hu := hu_of hr
    refine ⟨_, pss_one (ps_ret (pe_lc (own := [("turn", 3)]) rfl scNear.nd (pi_range1 rfl hrange (pa_cons (pe_callB call_len_seq (by rfl) hlen PySem.boot_len (pa_cons (pv 1) pa_nil)) pa_nil)) (blkOk_by (by show blkC ["left", "changes", "needed", "turn"] (defScope sNear) _ [("turn", 3)] = true; decide +kernel))
        (fun _ _ _ _ _ => pg_name (i := 3) scNear.nd rfl (Or.inl rfl))
        (fun _ _ _ _ _ => pts_one (pt_cmpR op_lt (pe_dget hu (pv 2) (pe_op op_xorN (pv 0) (pe_ix (r := rIxL K) ix_list (pv 1) (pv 3) (fun _ _ => rfl))) (fun _ _ => rfl)) (pe_dget hu (pv 2) (pv 0) (fun _ _ => rfl)) (nomark _)))
        (fun _ _ _ _ _ => pv 3))), ?_⟩
    refine ⟨_, rfl, a, _, rfl, .inl (SqL.of ha), _, rfl, ?_, ?_, fun B hB => ?_⟩
    · rw [nV_len]
      omega
    · rw [nV_len]
      omega
    refine lc_range (fun t H' => H' B = some (.lst (nV ((List.range t).filter fun t => decide ((D.lookup (x ^^^ fs.getD t 0)).getD 0 < (D.lookup x).getD 0)))) ∧ Same H H') ⟨upd_same, same_new (Same.refl H) hB⟩ ?_ ?_
    · rintro t H' ht ⟨hB', hS⟩
      rw [nV_len, Int.toNat_natCast] at ht
      have hlt : (nV ((List.range t).filter fun t => decide ((D.lookup (x ^^^ fs.getD t 0)).getD 0 < (D.lookup x).getD 0))).length < sizeLine := by
        rw [nV_len]
        have := List.length_filter_le (fun t => decide ((D.lookup (x ^^^ fs.getD t 0)).getD 0 < (D.lookup x).getD 0)) (List.range t)
        rw [List.length_range] at this
        exact sz10' (by omega)
      have hg : fs[t]? = some (fs.getD t 0) := by rw [List.getD_eq_getElem?_getD, List.getElem?_eq_getElem ht]; rfl
      obtain ⟨i, hi, _, _⟩ := Cm.dist_step hx (Cm.getD_mem' ht)
      have l1 := F0.look.mpr hi
      have l2 := F0.look.mpr hx
      have hix : atI (nV fs) (t : Int) = some (V.int (fs.getD t 0 : Nat)) := atI_nat (nV_get hg)
      refine ⟨rfl, ?_⟩
      refine ⟨_, rfl, _, rfl, _, rfl, _, rfl, a, _, _, _, rfl, rfl, SqL.of (hS _ _ ha), (by rw [Int.zero_add]; exact hix), x, fs.getD t 0, rfl, rfl, p, _, rfl, dget (rd_keep hp hS) l1, _, rfl, _, rfl, p, _, rfl, dget (rd_keep hp hS) l2, _, _, rfl, rfl, _, rfl, ?_⟩
      have e : decide ((i : Int) < (j : Int)) = decide ((D.lookup (x ^^^ fs.getD t 0)).getD 0 < (D.lookup x).getD 0) := by
        rw [l1, l2, Bool.eq_iff_iff, decide_eq_true_iff, decide_eq_true_iff]
        show _ ↔ i < j
        omega
      rw [e]
      cases q : decide ((D.lookup (x ^^^ fs.getD t 0)).getD 0 < (D.lookup x).getD 0) with
      | true =>
        refine iteT ⟨_, rfl, _, hB', hlt, ?_, same_fresh hS hB⟩
        rw [upd_same, take_filter, q, if_pos rfl, nV_app, Int.zero_add]
        rfl
      | false =>
        refine iteF ⟨?_, hS⟩
        rw [take_filter, q, if_neg Bool.false_ne_true, List.append_nil]
        exact hB'
    · rintro H' ⟨hB', hS⟩
      rw [nV_len, Int.toNat_natCast] at hB'
      exact kk H' B hS hB hB'
theorem scPlan : FnScope ["wanted", "changes", "needed", "plan", "left", "turn"] ["wanted", "changes"] (defScope sPlan) := ⟨rfl, rfl, rfl, by decide +kernel, rfl, by decide +kernel, by decide +kernel⟩
theorem ok_plan {f fN fR : Addr} {fd fdN fdR : FuncData} (F : Fun K "first_plan" "first_plan" sPlan f fd)
    (GN : FnOk P w K mg base CX0 1 fN fdN ["changes"] spNeed) (mgN : mg "turns_needed" = some (.ref fN)) (kpN : PySem.W.keepIn K (.ref fN) = true) (bN : Binds K fdN ["changes"] [])
    (GR : FnOk P w K mg base CX0 1 fR fdR ["left", "changes", "needed"] spNear) (mgR : mg "nearer_turns" = some (.ref fR)) (kpR : PySem.W.keepIn K (.ref fR) = true) (bR : Binds K fdR ["left", "changes", "needed"] []) :
    FnOk P w K mg base CX0 2 f fd ["wanted", "changes"] spPlan := by
  refine F.ok scPlan (fun vs H Q E h => ?_) (fun cdv A outer s H vs Q E hr h => ?_)
  · obtain ⟨x, a, fs, n, d, full, rfl, _⟩ := h
    rfl
  · obtain ⟨x, a, fs, n, d, full, rfl, ha, hfl, hn, hf, hx, hfull, kk⟩ := h
    refine ⟨_, pss_cons (ps_set (i := 2) scPlan.nd rfl (Or.inl rfl) (pe_call GN hr rfl mgN kpN bN .nil pass0 (pa_cons (pv 1) pa_nil)))
      (pss_cons (ps_set (i := 3) scPlan.nd rfl (Or.inl rfl) (pe_lst pa_nil))
      (pss_cons (ps_set (i := 4) scPlan.nd rfl (Or.inl rfl) (pv 0))
      (pss_cons (ps_while PassesOwn.never (pt_cmpR op_ne (pv 4) pe_int (nomark _))
        (pss_cons (ps_set (i := 5) scPlan.nd rfl (Or.inl rfl) (pe_ix ix_list (pe_call GR hr rfl mgR kpR bR .nil pass0 (pa_cons (pv 4) (pa_cons (pv 1) (pa_cons (pv 2) pa_nil)))) pe_int (fun _ _ => rfl)))
        (pss_cons (ps_expr (pe_bm PySem.F.plainAttrs_list PySem.F.slot_list_append PySem.F.type_list_append mt_append (pv 3) (pa_cons (pv 5) pa_nil)))
        (pss_one (ps_set (i := 4) scPlan.nd rfl (Or.inl rfl) (pe_op op_xorN (pv 4) (pe_ix ix_list (pv 1) (pv 5) (fun _ _ => rfl))))))))
      (pss_one (ps_ret (pv 3)))))), ?_⟩
    refine ⟨_, rfl, a, fs, n, rfl, ha, hn, hf, fun H1 p D S1 hp hp1 F0 hD => ?_⟩
    refine ⟨Nat.zero_le _, fun q hq => ?_⟩
    have hqH : H q = none := S1.free hq
    have hdlt : d < D.length := far_lt F0 hx
    have hflen : full.length = d := Cm.firstPlan_len _ hfull
    have ha1 := S1 _ _ ha
    refine ⟨_, rfl, ?_⟩
    refine ⟨fun m σ H2 => ∃ (y : Nat) (done rest : List Nat) (v5 : Option V), σ = [some (.int x), some (.ref a), some (.ref p), some (.ref q), some (.int (y : Int)), v5] ∧ Same H1 H2 ∧ H2 q = some (.lst (nV done)) ∧
      Cm.Dist (Cm.nbX fs) 0 y m ∧ Cm.firstPlan (Cm.nbX fs) 0 m y = some rest ∧ full = done ++ rest, ⟨d, x, [], full, none, rfl, same_new (Same.refl H1) hq, upd_same, hx, hfull, rfl⟩, ?_⟩
    rintro m σ H2 ⟨y, done, rest, v5, rfl, S2, hq2, hy, hrest, efull⟩
    refine ⟨_, rfl, rfl, _, rfl, ?_⟩
    by_cases hy0 : y = 0
    · subst hy0
      have hm : m = 0 := Cm.Dist.uniq _ hy ((Cm.Dist.zero _).mpr rfl)
      subst hm
      have : rest = [] := by
        have e : Cm.firstPlan (Cm.nbX fs) 0 0 0 = some [] := rfl
        rw [e] at hrest
        exact (Option.some.inj hrest).symm
      subst this
      rw [List.append_nil] at efull
      subst efull
      refine iteF ?_
      exact ⟨_, rfl, kk H2 q (S1.trans S2) hqH hq2 (by omega)⟩
    · have e0 : decide (V.int (y : Int) = V.int 0) = false := decide_eq_false (by intro e; exact hy0 (by injection e; omega))
      rw [e0]
      cases m with
      | zero => exact absurd ((Cm.Dist.zero _).mp hy) hy0
      | succ m =>
        obtain ⟨t, ts, rest', hnear, ht, hd', hp', er⟩ := Cm.near_plan F0 hy hrest
        refine iteT ⟨fun σ' H' => ∃ m', m' < m + 1 ∧ ∃ (y : Nat) (done rest : List Nat) (v5 : Option V), σ' = [some (.int x), some (.ref a), some (.ref p), some (.ref q), some (.int (y : Int)), v5] ∧ Same H1 H' ∧ H' q = some (.lst (nV done)) ∧
          Cm.Dist (Cm.nbX fs) 0 y m' ∧ Cm.firstPlan (Cm.nbX fs) 0 m' y = some rest ∧ full = done ++ rest, fun σ' H' h => h, ?_⟩
        refine ⟨_, rfl, _, rfl, _, rfl, y, a, p, fs, D, m + 1, rfl, S2 _ _ ha1, hfl, .inl (S2 _ _ hp1), F0, hy, fun H3 b S3 hb hb3 => ?_⟩
        rw [hnear] at hb3
        refine ⟨b, _, _, V.int (t : Int), rfl, rfl, SqL.of hb3, atI_nat (j := 0) rfl, ?_⟩
        have hq3 := S3 _ _ hq2
        have hdl : done.length ≤ 1024 := by
          have := congrArg List.length efull
          rw [List.length_append] at this
          omega
        refine ⟨_, rfl, .inl ⟨rfl, _, SqL.of hq3⟩, _, rfl, q, _, _, rfl, rfl, hq3, (by rw [nV_len]; exact sz10' (by omega)), ?_⟩
        have hg : fs[t]? = some (fs.getD t 0) := by rw [List.getD_eq_getElem?_getD, List.getElem?_eq_getElem ht]; rfl
        have naq : a ≠ q := ne_of_none ha1 hq
        refine ⟨_, rfl, _, rfl, _, rfl, a, _, _, _, rfl, rfl, SqL.of (by rw [upd_ne naq]; exact S3 _ _ (S2 _ _ ha1)), atI_nat (nV_get hg), y, fs.getD t 0, rfl, rfl, ?_⟩
        refine ⟨m, Nat.lt_succ_self m, y ^^^ fs.getD t 0, done ++ [t], rest', _, rfl, same_fresh (S2.trans S3) hq, ?_, hd', hp', ?_⟩
        · rw [upd_same, nV_app]
          rfl
        · rw [efull, er, List.append_assoc]
          rfl
end
end Cn
set_option Elab.async false
set_option maxRecDepth 100000
set_option maxHeartbeats 4000000
/-! Walks over a dict's keys; the most of its values. -/
namespace Cn
open PySem PySem.Spec PyProof.Rows L2
theorem for_keys {d : Addr} {o : Obj} {kvs : List (Key × V)} {g : TG} {tb : TS} {D : Ends} {σ : L2.St} {H : Hp} (Pv : Nat → L2.St → Hp → Prop) (h0 : Pv 0 σ H) (hl : ∀ i σ H, i ≤ kvs.length → Pv i σ H → H d = some (.frz o (.dK kvs)))
    (hs : ∀ i k v σ H, kvs[i]? = some (k, v) → Pv i σ H → g (kV k) σ H fun σ2 H2 => tb { D with nx := Pv (i + 1), ct := Pv (i + 1), bk := D.nx } σ2 H2) (hd : ∀ σ H, Pv kvs.length σ H → D.nx σ H) :
    ∃ W : Nat → Nat → L2.St → Hp → Prop, (∃ m, W 0 m σ H) ∧ ∀ i m σ H, W i m σ H →
      ((Itk d o kvs).stop i H ∧ D.nx σ H) ∨ ((Itk d o kvs).go i H ∧ ∃ N : L2.St → Hp → Prop, (∀ σ' H', N σ' H' → ∃ m', m' < m ∧ W (i + 1) m' σ' H') ∧ ∀ x H', (Itk d o kvs).yld i H x H' → g x σ H' fun σ2 H2 => tb { D with nx := N, ct := N, bk := D.nx } σ2 H2) := by
  refine ⟨fun i m σ H => m = kvs.length - i ∧ i ≤ kvs.length ∧ Pv i σ H, ⟨_, rfl, Nat.zero_le _, h0⟩, ?_⟩
  rintro i m σ H ⟨rfl, hi, pv⟩
  have fz := hl i σ H hi pv
  by_cases hlt : i < kvs.length
  · refine .inr ⟨⟨fz, hlt⟩, Pv (i + 1), fun σ' H' z => ⟨_, by omega, rfl, hlt, z⟩, fun x H' y => ?_⟩
    obtain ⟨rfl, k, v, hk, rfl⟩ := y
    exact hs i k v σ _ hk pv
  · have e : i = kvs.length := by omega
    subst e
    exact .inl ⟨⟨fz, Nat.le_refl _⟩, hd σ H pv⟩
theorem lc_keys {d : Addr} {o : Obj} {kvs : List (Key × V)} {g : TG} {tt : TT} {te : TE} {vs : List Nat} {σ : L2.St} {H1 : Hp} {D : Addr} {Qd : Hp → Prop} (Pv : Nat → Hp → Prop) (h0 : Pv 0 (upd H1 D (.lst []))) (hl : ∀ i H, i ≤ kvs.length → Pv i H → H d = some (.frz o (.dK kvs)))
    (hs : ∀ i k v H, kvs[i]? = some (k, v) → Pv i H → g (kV k) (wipe σ vs) H fun σ2 H2 => wipe σ2 vs = wipe σ vs ∧ tt σ2 H2 fun b H3 =>
      if b = true then te σ2 H3 fun y H4 => ∃ acc, H4 D = some (.lst acc) ∧ acc.length < sizeLine ∧ Pv (i + 1) (upd H4 D (.lst (acc ++ [y]))) else Pv (i + 1) H3) (hd : ∀ H, Pv kvs.length H → Qd H) :
    ∃ W : Nat → Nat → Hp → Prop, (∃ m, W 0 m (upd H1 D (.lst []))) ∧ ∀ i m H, W i m H →
      ((Itk d o kvs).stop i H ∧ Qd H) ∨ ((Itk d o kvs).go i H ∧ ∃ Nx : Hp → Prop, (∀ H', Nx H' → ∃ m', m' < m ∧ W (i + 1) m' H') ∧ ∀ x H', (Itk d o kvs).yld i H x H' → g x (wipe σ vs) H' fun σ2 H2 => wipe σ2 vs = wipe σ vs ∧ tt σ2 H2 fun b H3 =>
        if b = true then te σ2 H3 fun y H4 => ∃ acc, H4 D = some (.lst acc) ∧ acc.length < sizeLine ∧ Nx (upd H4 D (.lst (acc ++ [y]))) else Nx H3) := by
  refine ⟨fun i m H => m = kvs.length - i ∧ i ≤ kvs.length ∧ Pv i H, ⟨_, rfl, Nat.zero_le _, h0⟩, ?_⟩
  rintro i m H ⟨rfl, hi, pv⟩
  have fz := hl i H hi pv
  by_cases hlt : i < kvs.length
  · refine .inr ⟨⟨fz, hlt⟩, Pv (i + 1), fun H' z => ⟨_, by omega, rfl, hlt, z⟩, fun x H' y => ?_⟩
    obtain ⟨rfl, k, v, hk, rfl⟩ := y
    exact hs i k v _ hk pv
  · have e : i = kvs.length := by omega
    subst e
    exact .inl ⟨⟨fz, Nat.le_refl _⟩, hd H pv⟩
theorem dV_get {D : List (Nat × Nat)} {i : Nat} {k : Key} {v : V} (h : (dV D)[i]? = some (k, v)) : ∃ e j : Nat, D[i]? = some (e, j) ∧ k = Sum.inl (e : Int) ∧ v = V.int (j : Int) := by
  unfold dV at h
  rw [List.getElem?_map] at h
  cases q : D[i]? with
  | none => rw [q] at h; cases h
  | some p =>
    rw [q] at h
    have h := Option.some.inj h
    injection h with h1 h2
    exact ⟨p.1, p.2, rfl, h1.symm, h2.symm⟩
/-! ### max(d.values()) -/
def tMaxV (td : TE) : TE := fun σ H Q => td σ H fun x H1 => ∃ (d : Addr) (D : List (Nat × Nat)), x = .ref d ∧ Rd H1 d (.dK (dV D)) ∧ 0 < D.length ∧ ∀ m : Nat, (∃ p ∈ D, p.2 = m) → (∀ p ∈ D, p.2 ≤ m) → Q (.int (m : Int)) H1
theorem pe_maxV {X : Cx} {e : Expr} {td : TE} {apos cpos p pos : Pos} (hc : X.calm = true) (hg : Gl X "max") (hm : X.mg "max" = none) (he : PE X e td)
    (hbase : attributeBase e "values" X.env (eval e X.env) = eval e X.env := by rfl) (hline : (apos.endLine == cpos.line) = true := by rfl)
    (hst : starEach [.Call (.Attribute e "values" apos) [] [] cpos] X.env = (false, eval (.Call (.Attribute e "values" apos) [] [] cpos) X.env) :: starEach [] X.env := by rfl) :
    PE X (.Call (.Name "max" p) [.Call (.Attribute e "values" apos) [] [] cpos] [] pos) (tMaxV td) := by
  intro pins s σ H Q I h
  refine wpAny_Call_Name_kw (ld_blt I hg hm boot_max ?_ (by decide) (by decide))
  refine PyProof.Rows.callWith_builtin1 ?_ hst rfl
  rw [hst]
  show wpAny _ _ (spliced ((false, eval _ X.env) :: backTo pos (starEach [] X.env))) _ _ s
  refine Calls.spliced_cons ?_
  refine wpAny_Call_method (T := "dict") (id := "dict.values") hbase rfl hline F.plainAttrs_dict F.slot_dict_values F.type_dict_values (thn (he pins s σ H _ I h) fun u s1 ⟨x, H1, I1, rx, d, D, ex, hd, hpos, q⟩ => ?_)
  subst ex
  obtain rfl : u = Value.ref d := rx
  obtain ⟨z, hs, vs, kv, dd⟩ := dk_rd I1.hok hd
  refine ⟨dd.typeIs, dd.mapOf.noDict, ?_⟩
  have I2 : Inv X pins σ H1 { s1 with heap := s1.heap.push { cls := .type "dict_values", data := .fields #[.ref d] } } := I1.kept (t' := s1.toks) fun b ob q => Heap.get?_push_of_some _ q
  have hl : D.length = vs.length := (dV_len D).symm.trans (Paired.length kv)
  have fin : wpAny (model X.prog X.w) X.A (call (.builtin "max") [.ref s1.heap.objs.size]) (EP X pins σ Q) X.xe { s1 with heap := s1.heap.push { cls := .type "dict_values", data := .fields #[.ref d] } } := by
    obtain ⟨ep, hat⟩ := dd.dictAt
    have KS := PySem.W.kdl_values (prog := X.prog) (w := X.w) (knd := mixKind X.prog X.w) (d := d) (r := s1.heap.objs.size) (kvs := vs) (ep := ep)
    have hok : (s1.heap.push { cls := .type "dict_values", data := .fields #[.ref d] }).IsValuesView s1.heap.objs.size d ∧ (s1.heap.push { cls := .type "dict_values", data := .fields #[.ref d] }).DictAt (mixKind X.prog X.w) d vs ep := ⟨⟨_, Heap.get?_push_size _ rfl, rfl, rfl⟩, hat.push _⟩
    refine call_max_walk ?_
    obtain ⟨oI, St, hit, W, st⟩ := KS.iter X.A.in1 { s1 with heap := s1.heap.push { cls := .type "dict_values", data := .fields #[.ref d] } } (I.ok.hd hc) hok
    have there := KS.there _ hok
    have val : ∀ (i : Nat) (v : Value), (∃ k, vs[i]? = some (k, v)) → ∃ t, v = .int ((((D[i]?).map (·.2)).getD 0 : Nat) : Int) t := by
      rintro i v ⟨k, hv⟩
      have hi : i < D.length := by rw [hl]; exact (List.getElem?_eq_some_iff.mp hv).1
      have hD : D[i]? = some D[i] := List.getElem?_eq_getElem hi
      have hd' : (dV D)[i]? = some (Sum.inl ((D[i]).1 : Int), V.int ((D[i]).2 : Int)) := by
        unfold dV
        rw [List.getElem?_map, hD]
        rfl
      obtain ⟨u, hu, ru⟩ := kv_get kv hd'
      rw [hv] at hu
      have e := Option.some.inj hu
      injection e with e1 e2
      subst e2
      rw [hD]
      exact ru
    refine hit _ _ ⟨_, _, _, _, _, _, _, rfl, W, st, fun b hb => ?_, by rw [← hl]; exact hpos, CmpOf.ints_gt (fun i => ((((D[i]?).map (·.2)).getD 0 : Nat) : Int)) val, fun v h' tk hP hk => ?_⟩
    · show b < (Heap.push _ oI).objs.size
      rw [Heap.size_push]
      rcases List.mem_cons.mp hb with e | hb
      · rw [e]; exact Nat.lt_succ_self _
      · rw [List.mem_singleton.mp hb]; exact Nat.lt_succ_of_lt there.2
    · obtain ⟨t, rfl⟩ := val _ v hP
      obtain ⟨b1, b2⟩ := argBest_gt (fun i => ((((D[i]?).map (·.2)).getD 0 : Nat) : Int)) (vs.length - 1)
      have I3 : Inv X pins σ H1 { s1 with heap := h', toks := tk } := I2.kept (t' := tk) fun b ob q => hk b ob (fun hI => absurd (Heap.lt_size q) (by rw [List.mem_singleton.mp hI]; exact Nat.lt_irrefl _)) (Heap.get?_push_of_some _ q)
      refine ⟨.int _, H1, I3, ⟨t, rfl⟩, q _ ?_ fun pr hpr => ?_⟩
      · have hi : argBest (fun i j => decide (((((D[i]?).map (·.2)).getD 0 : Nat) : Int) > ((((D[j]?).map (·.2)).getD 0 : Nat) : Int))) (vs.length - 1) < D.length := by omega
        refine ⟨D[_]'hi, List.getElem_mem hi, ?_⟩
        rw [List.getElem?_eq_getElem hi]
        rfl
      · obtain ⟨i, hi, rfl⟩ := List.mem_iff_getElem.mp hpr
        have := b2 i (by omega)
        rw [List.getElem?_eq_getElem hi] at this
        have this := Int.ofNat_le.mp this
        exact this
  show wpAny _ _ (callWith cpos (.builtin "dict.values") [.ref d] [] []) _ X.xe s1
  exact method_meetsIn F.slot_dict_values F.entry_dict_values rfl (PySem.evalArgs_none ⟨rfl, dd.typeIs, F.args_dict_values_1 _, _, meets_dict_values (mixKind X.prog X.w) d hs, ⟨vs, dd⟩, Calls.spliced_nil fin⟩)
end Cn
set_option Elab.async false
set_option maxRecDepth 100000
set_option maxHeartbeats 4000000
/-! How many plans. -/
namespace Cn
open PySem PySem.Spec PyProof.Rows L2
abbrev sTaP : Stmt := top 14
def spTaP : Sp := fun vs H Q _ => ∃ (x : Nat) (a : Addr) (fs : List Nat) (n d : Nat), vs = [.int x, .ref a] ∧ H a = some (.lst (nV fs)) ∧ fs.length ≤ 1024 ∧ n ≤ 10 ∧ (∀ f ∈ fs, f < 2 ^ n) ∧ Cm.Dist (Cm.nbX fs) 0 x d ∧
  ∀ (H' : Hp) (q : Addr), Same H H' → H q = none → H' q = some (.lst (nV [d, Cm.cnt (Cm.nbX fs) 0 d x])) → Q (.ref q) H'
theorem sum_cast : ∀ (l : List Nat), (l.map fun (n : Nat) => (n : Int)).sum = ((l.sum : Nat) : Int)
  | [] => rfl
  | x :: r => by
    rw [List.map_cons, List.sum_cons, List.sum_cons, sum_cast r]
    omega
/-- the counts behind so many keys -/
def cnts (fs : List Nat) (D : List (Nat × Nat)) (i : Nat) : List (Nat × Nat) := (D.take (max i 1)).map (Cm.cn fs)
theorem cnts_0 {fs : List Nat} {D : List (Nat × Nat)} (F : Cm.Far0 fs D) : cnts fs D 0 = [(0, 1)] := by
  have h := F.head
  cases D with
  | nil => simp at h
  | cons p r =>
    have e : p = (0, 0) := Option.some.inj h
    subst e
    rfl
theorem cnts_1 (fs : List Nat) (D : List (Nat × Nat)) : cnts fs D 1 = cnts fs D 0 := rfl
theorem cnts_s {fs : List Nat} {D : List (Nat × Nat)} {i : Nat} {p : Nat × Nat} (hi : 1 ≤ i) (h : D[i]? = some p) : cnts fs D (i + 1) = cnts fs D i ++ [Cm.cn fs p] := by
  unfold cnts
  rw [Nat.max_eq_left (by omega), Nat.max_eq_left hi, Cm.take_snoc h, List.map_append]
  rfl
section
variable {P : Program} {w : World} {K : PySem.W.Frag} {mg : Str → Option Value} {base : Heap}
theorem scTaP : FnScope ["wanted", "changes", "needed", "counts", "made", "turn"] ["wanted", "changes"] (defScope sTaP) := ⟨rfl, rfl, rfl, by decide +kernel, rfl, by decide +kernel, by decide +kernel⟩
theorem ok_tap {f fN fR : Addr} {fd fdN fdR : FuncData} (F : Fun K "turns_and_plans" "turns_and_plans" sTaP f fd) (hsum : mg "sum" = none)
    (GN : FnOk P w K mg base CX0 1 fN fdN ["changes"] spNeed) (mgN : mg "turns_needed" = some (.ref fN)) (kpN : PySem.W.keepIn K (.ref fN) = true) (bN : Binds K fdN ["changes"] [])
    (GR : FnOk P w K mg base CX0 1 fR fdR ["left", "changes", "needed"] spNear) (mgR : mg "nearer_turns" = some (.ref fR)) (kpR : PySem.W.keepIn K (.ref fR) = true) (bR : Binds K fdR ["left", "changes", "needed"] []) :
    FnOk P w K mg base CX0 2 f fd ["wanted", "changes"] spTaP := by
  refine F.ok scTaP (fun vs H Q E h => ?_) (fun cdv A outer s H vs Q E hr h => ?_)
  · obtain ⟨x, a, fs, n, d, rfl, _⟩ := h
    rfl
  · obtain ⟨x, a, fs, n, d, rfl, ha, hfl, hn, hf, hx, kk⟩ := h
    have hu := hu_of hr
    refine ⟨_, pss_cons (ps_set (i := 2) scTaP.nd rfl (Or.inl rfl) (pe_call GN hr rfl mgN kpN bN .nil pass0 (pa_cons (pv 1) pa_nil)))
      (pss_cons (ps_set (i := 3) scTaP.nd rfl (Or.inr rfl) (pe_disp (pps_cons pe_int pe_int pps_nil) rfl rfl (by intro q; cases q) (by decide)))
      (pss_cons (ps_lock (ps_for PassesOwn.never rfl (pi_keys (pv 2)) (pg_name (i := 4) scTaP.nd rfl (Or.inr rfl))
        (pss_one (ps_if (pt_cmpR op_ne (pv 4) pe_int (nomark _))
          (pss_one (ps_dput hu (pv 3) (pv 4) (pe_callB (cr_sum rfl) (by rfl) hsum boot_sum (pa_cons (pe_lc (own := [("turn", 5)]) rfl scTaP.nd (pi_list (pe_call GR hr rfl mgR kpR bR .nil pass0 (pa_cons (pv 4) (pa_cons (pv 1) (pa_cons (pv 2) pa_nil)))))
            (blkOk_by (by show blkC ["wanted", "changes", "needed", "counts", "made", "turn"] (defScope sTaP) _ [("turn", 5)] = true; decide +kernel))
            (fun _ _ _ _ _ => pg_name (i := 5) scTaP.nd rfl (Or.inl rfl)) (fun _ _ _ _ _ => pts_nil)
            (fun _ _ _ _ _ => pe_dget hu (pv 3) (pe_op op_xorN (pv 4) (pe_ix (r := rIxL K) ix_list (pv 1) (pv 5) (fun _ _ => rfl))) (fun _ _ => rfl))) pa_nil)) rfl)) pss_nil))))
      (pss_one (ps_ret (pe_lst (pa_cons (pe_dget hu (pv 2) (pv 0) (fun _ _ => rfl)) (pa_cons (pe_dget hu (pv 3) (pv 0) (fun _ _ => rfl)) pa_nil))))))), ?_⟩
    refine ⟨_, rfl, a, fs, n, rfl, ha, hn, hf, fun H1 p D S1 hp hp1 F0 hD => ?_⟩
    intro c hc
    have hcH : H c = none := S1.free hc
    refine ⟨upd_same, [(Sum.inl 0, V.int 1)], rfl, by decide, ?_⟩
    rw [upd_upd]
    have npc : p ≠ c := fun e => by rw [← e, hp1] at hc; cases hc
    have hp2 := upd_keep (o' := HO.dK (mergeK [] [(Sum.inl 0, V.int 1)])) hp1 hc
    have S2 : Same H (upd H1 c (HO.dK (mergeK [] [(Sum.inl 0, V.int 1)]))) := same_new S1 hc
    have c2 : (upd H1 c (HO.dK (mergeK [] [(Sum.inl 0, V.int 1)]))) c = some (.dK (dV (cnts fs D 0))) := by
      rw [upd_same, cnts_0 F0]
      rfl
    have ha1 := S1 _ _ ha
    refine ⟨p, .dK (dV D), hp2, True.intro, fun od => ?_⟩
    refine ⟨_, rfl, p, od, rfl, .inl ⟨dV D, upd_same, for_keys (fun i σ H2 => ∃ (v4 v5 : Option V), σ = [some (.int x), some (.ref a), some (.ref p), some (.ref c), v4, v5] ∧ Same H H2 ∧ H2 p = some (.frz od (.dK (dV D))) ∧ H2 c = some (.dK (dV (cnts fs D i)))) ?_ ?_ ?_ ?_⟩⟩
    · exact ⟨none, none, rfl, same_fresh S2 hp, upd_same, by rw [upd_ne (Ne.symm npc)]; exact c2⟩
    · rintro i σ H2 hi ⟨v4, v5, rfl, S3, hp3, hc3⟩
      exact hp3
    · rintro i k v σ H2 hi ⟨v4, v5, rfl, S3, hp3, hc3⟩
      obtain ⟨e, j, hij, rfl, rfl⟩ := dV_get hi
      have he := (F0.mem e j).mp (List.mem_of_getElem? hij)
      refine ⟨_, rfl, rfl, _, rfl, ?_⟩
      by_cases he0 : e = 0
      · subst he0
        refine iteF ?_
        have i0 : i = 0 := by
          obtain ⟨hil, ei⟩ := List.getElem?_eq_some_iff.mp hij
          obtain ⟨h0l, e0⟩ := List.getElem?_eq_some_iff.mp F0.head
          apply Classical.byContradiction
          intro z
          have := (List.pairwise_iff_getElem.mp F0.nd) 0 i (by simpa using h0l) (by simpa using hil) (by omega)
          rw [List.getElem_map, List.getElem_map, ei, e0] at this
          exact this rfl
        subst i0
        exact ⟨_, _, rfl, S3, hp3, hc3⟩
      · have e0 : decide (V.int (e : Int) = V.int 0) = false := decide_eq_false (by intro z; exact he0 (by injection z; omega))
        show if (!decide (V.int (e : Int) = V.int 0)) = true then _ else _
        rw [e0]
        have i1 : 1 ≤ i := by
          apply Classical.byContradiction
          intro z
          have : i = 0 := by omega
          subst this
          rw [F0.head] at hij
          have := Option.some.inj hij
          injection this with z1 z2
          exact he0 z1.symm
        cases j with
        | zero => exact absurd ((Cm.Dist.zero _).mp he) he0
        | succ j =>
          refine iteT ?_
          refine ⟨_, rfl, _, rfl, _, rfl, e, a, p, fs, D, j + 1, rfl, S3 _ _ ha, hfl, .inr ⟨od, hp3⟩, F0, he, fun H3 b S4 hb hb3 => ?_⟩
          refine ⟨b, rfl, ⟨_, SqL.of hb3⟩, fun B hB => ?_⟩
          have hnl : (Cm.near D fs e).length ≤ 1024 := by
            unfold Cm.near
            have := List.length_filter_le (fun t => decide ((D.lookup (e ^^^ fs.getD t 0)).getD 0 < (D.lookup e).getD 0)) (List.range fs.length)
            rw [List.length_range] at this
            omega
          have cti : cnts fs D i = (D.take i).map (Cm.cn fs) := by unfold cnts; rw [Nat.max_eq_left i1]
          refine lc_list (K := K) (xs := nV (Cm.near D fs e)) (fun i' H4 => H4 B = some (.lst (nV (((Cm.near D fs e).take i').map fun t => Cm.cnt (Cm.nbX fs) 0 j (e ^^^ fs.getD t 0)))) ∧ Same H3 H4) ⟨upd_same, same_new (Same.refl H3) hB⟩ (fun i' H4 _ h => SqL.of (h.2 _ _ hb3)) ?_ ?_
          · rintro i' y H4 hi' ⟨hB4, S5⟩
            obtain ⟨t, ht, rfl⟩ := nV_of hi'
            obtain ⟨m1, m2⟩ := List.mem_filter.mp (List.mem_of_getElem? ht)
            have htl : t < fs.length := List.mem_range.mp m1
            have hdt := (Cm.near_iff F0 he htl).mp m2
            have hg : fs[t]? = some (fs.getD t 0) := by rw [List.getD_eq_getElem?_getD, List.getElem?_eq_getElem htl]; rfl
            have lk := Cm.cn_look F0 hij hdt
            rw [← cti] at lk
            refine ⟨rfl, ?_⟩
            refine ⟨_, rfl, _, rfl, _, rfl, _, rfl, a, _, _, _, rfl, rfl, SqL.of (S5 _ _ (S4 _ _ (S3 _ _ ha))), atI_nat (nV_get hg), e, fs.getD t 0, rfl, rfl, c, _, rfl, dget (.inl (S5 _ _ (S4 _ _ hc3))) lk, _, hB4, ?_, ?_, same_fresh S5 hB⟩
            · rw [nV_len, List.length_map, List.length_take]
              exact sz10' (by omega)
            · rw [upd_same, Cm.take_snoc ht, List.map_append, nV_app]
              rfl
          · rintro H4 ⟨hB4, S5⟩
            rw [nV_len, List.take_length, nV_ints] at hB4
            have hc4 := S5 _ _ (S4 _ _ hc3)
            have clen : (cnts fs D i).length ≤ 1024 := by
              rw [cti, List.length_map, List.length_take]
              omega
            refine ⟨B, _, rfl, SqL.of hB4, _, rfl, _, rfl, c, _, rfl, DPut.k (k := Sum.inl (e : Int)) hc4 (by rw [dV_len]; exact sz10' (by omega)), ?_⟩
            have nk : (cnts fs D i).lookup e = none := by
              rw [cti]
              exact Cm.cn_new F0 hij
            rw [sum_cast, Cm.cnt_near F0 he, put_dV _ nk]
            refine ⟨_, _, rfl, same_fresh ((S3.trans S4).trans S5) hcH, ?_, ?_⟩
            · rw [upd_ne npc]
              exact S5 _ _ (S4 _ _ hp3)
            · rw [upd_same, cnts_s i1 hij]
              rfl
    · rintro σ H2 ⟨v4, v5, rfl, S3, hp3, hc3⟩
      refine ⟨hp3, ?_⟩
      have call : cnts fs D (dV D).length = D.map (Cm.cn fs) := by
        unfold cnts
        rw [dV_len, List.take_of_length_le (by omega)]
      rw [call] at hc3
      have lk := Cm.cn_all F0 hx
      refine ⟨_, rfl, _, rfl, p, _, rfl, dget (.inl upd_same) (F0.look.mpr hx), _, rfl, _, rfl, c, _, rfl, dget (.inl (by rw [upd_ne (Ne.symm npc)]; exact hc3)) lk, (by show 2 ≤ sizeLine; decide), fun t ht => ?_⟩
      have S4 : Same H (upd H2 p (.dK (dV D))) := same_fresh S3 hp
      exact kk _ t (same_new S4 ht) (S4.free ht) upd_same
end
end Cn
set_option Elab.async false
set_option maxRecDepth 100000
set_option maxHeartbeats 4000000
/-! The coins' search calls. -/
namespace Cn
open PySem PySem.Spec PyProof.Rows L2
abbrev sChs : Stmt := inClass cCoins 6
abbrev sChTo : Stmt := inClass cCoins 7
abbrev sRfs : Stmt := inClass cCoins 8
abbrev sToM : Stmt := inClass cCoins 9
abbrev sPlansM : Stmt := inClass cCoins 10
abbrev sRowsM : Stmt := inClass cCoins 11
abbrev sFarM : Stmt := inClass cCoins 12
theorem pe_fldK {X : Cx} {K : PySem.W.Frag} {e : Expr} {ta : TE} {f : Str} {pos : Pos} (hK : X.K = K) (he : PE X e ta) (hb : attributeBase e f X.env (eval e X.env) = eval e X.env) : PE X (.Attribute e f pos) (tFld K ta f) := by
  subst hK
  exact pe_fld he hb
def rLen (K : PySem.W.Frag) : List V → Hp → VK → Prop := fun xs H Q => ∃ p ys, xs = [.ref p] ∧ (SqL K H p ys ∨ SqT K H p ys) ∧ Q (.int ys.length) H
abbrev fz (z : Uw80.Coins) : List Nat := Cm.fsOf z.mode z.k z.row.length
theorem Good.ok {z : Uw80.Coins} (G : Good z) : Cm.OkRow z.row.length z.row := ⟨rfl, G.bit⟩
theorem fz_len {z : Uw80.Coins} (G : Good z) : (fz z).length ≤ 1024 := by
  show ((Uw80.turns z.mode z.k z.row.length).map _).length ≤ 1024
  rw [List.length_map]
  exact turns_sz G.n10
theorem fz_lt (z : Uw80.Coins) : ∀ f ∈ fz z, f < 2 ^ z.row.length := Cm.fsOf_lt
def spChs (C : Addr) : Sp := fun vs H Q _ => ∃ (c : Addr) (z : Uw80.Coins), vs = [.ref c] ∧ IsCoins C H c z ∧ Good z ∧
  ∀ (H' : Hp) (q : Addr), Same H H' → H q = none → H' q = some (.lst (nV (fz z))) → Q (.ref q) H'
def spChTo (C : Addr) : Sp := fun vs H Q _ => ∃ (c : Addr) (z : Uw80.Coins) (a : Addr) (l : List Nat), vs = [.ref c, .ref a] ∧ IsCoins C H c z ∧ Good z ∧ H a = some (.lst (nV l)) ∧ l.length ≤ 10 ∧ (∀ x ∈ l, x ≤ 1) ∧
  Q (.int ((Uw80.code z.row ^^^ Uw80.code l : Nat) : Int)) H
/-- what refusal gives -/
def refN (z : Uw80.Coins) (l : List Nat) : Int := if Uw80.isRow z l = false then -1 else match Uw80.planTo z l with
  | none => -6
  | some _ => 0
def spRfs (C : Addr) : Sp := fun vs H Q _ => ∃ (c : Addr) (z : Uw80.Coins) (a : Addr) (l : List Nat), vs = [.ref c, .ref a] ∧ IsCoins C H c z ∧ Good z ∧ H a = some (.lst (nV l)) ∧ l.length ≤ 30 ∧
  ∀ H' : Hp, Same H H' → Q (.int (refN z l)) H'
def spTo (C : Addr) : Sp := fun vs H Q E => ∃ (a : Addr) (l : List Nat), H a = some (.lst (nV l)) ∧ l.length ≤ 30 ∧ spCall C [.ref a] (.to l) vs H Q E
def spPlansM (C : Addr) : Sp := fun vs H Q E => ∃ (a : Addr) (l : List Nat), H a = some (.lst (nV l)) ∧ l.length ≤ 30 ∧ spCall C [.ref a] (.plans l) vs H Q E
def spRowsM (C : Addr) : Sp := fun vs H Q E => spCall C [] .rows vs H Q E
def spFarM (C : Addr) : Sp := fun vs H Q E => spCall C [] .farthest vs H Q E
theorem isRow_iff {z : Uw80.Coins} {l : List Nat} : Uw80.isRow z l = true ↔ l.length = z.row.length ∧ bits l = true := by
  show (l.length == z.row.length && bits l) = true ↔ _
  rw [Bool.and_eq_true, beq_iff_eq]
theorem ref_bad {z : Uw80.Coins} {l : List Nat} (h : ¬ (l.length = z.row.length ∧ bits l = true)) : Uw80.isRow z l = false := by
  cases e : Uw80.isRow z l with
  | false => rfl
  | true => exact absurd (isRow_iff.mp e) h
theorem ref_1 {z : Uw80.Coins} {l : List Nat} (h : Uw80.isRow z l = false) : refN z l = -1 := by
  unfold refN
  rw [if_pos h]
theorem ref_6 {z : Uw80.Coins} {l : List Nat} (h : Uw80.isRow z l = true) (p : Uw80.planTo z l = none) : refN z l = -6 := by
  unfold refN
  rw [if_neg (by rw [h]; decide), p]
theorem ref_0 {z : Uw80.Coins} {l p : List Nat} (h : Uw80.isRow z l = true) (e : Uw80.planTo z l = some p) : refN z l = 0 := by
  unfold refN
  rw [if_neg (by rw [h]; decide), e]
theorem okl {z : Uw80.Coins} {l : List Nat} (h : l.length = z.row.length ∧ bits l = true) : Cm.OkRow z.row.length l := ⟨h.1, bits_iff.mp h.2⟩
/-- one can come to it just where the table has its change -/
theorem to_cases {z : Uw80.Coins} {l : List Nat} (G : Good z) (h : l.length = z.row.length ∧ bits l = true) : (Uw80.planTo z l = none ∧ ∀ d, ¬ Cm.Dist (Cm.nbX (fz z)) 0 (Uw80.code z.row ^^^ Uw80.code l) d) ∨
    ∃ d p, Cm.Dist (Cm.nbX (fz z)) 0 (Uw80.code z.row ^^^ Uw80.code l) d ∧ Uw80.planTo z l = some p ∧ Cm.firstPlan (Cm.nbX (fz z)) 0 d (Uw80.code z.row ^^^ Uw80.code l) = some p ∧ p.length = d ∧
      Uw80.countPlans z l d = Cm.cnt (Cm.nbX (fz z)) 0 d (Uw80.code z.row ^^^ Uw80.code l) := by
  by_cases q : ∃ d, Cm.Dist (Cm.nbX (fz z)) 0 (Uw80.code z.row ^^^ Uw80.code l) d
  · obtain ⟨d, hd⟩ := q
    obtain ⟨p, h1, h2, h3, h4⟩ := Cm.to_some G.ok (okl h) hd
    exact .inr ⟨d, p, hd, h1, h2, h3, h4⟩
  · exact .inl ⟨Cm.to_none G.ok (okl h) fun d hd => q ⟨d, hd⟩, fun d hd => q ⟨d, hd⟩⟩
section
variable {P : Program} {w : World} {K : PySem.W.Frag} {mg : Str → Option Value} {base : Heap}
theorem scChs : FnScope ["self", "places"] ["self"] (defScope sChs) := ⟨rfl, rfl, rfl, by decide +kernel, rfl, by decide +kernel, by decide +kernel⟩
theorem ok_chs {f fC C : Addr} {fd fdC : FuncData} (F : Fun K "changes" "Coins.changes" sChs f fd) (T : Txt K C) (hlen : mg "len" = none)
    (GC : FnOk P w K mg base CX0 2 fC fdC ["places", "coins"] spChg) (mgC : mg "change_at" = some (.ref fC)) (kpC : PySem.W.keepIn K (.ref fC) = true) (bC : Binds K fdC ["places", "coins"] []) :
    FnOk P w K mg base CX0 3 f fd ["self"] (spChs C) := by
  refine F.ok scChs (fun vs H Q E h => ?_) (fun cdv A outer s H vs Q E hr h => ?_)
  · obtain ⟨c, z, rfl, _⟩ := h
    rfl
  · obtain ⟨c, z, rfl, ⟨dx, pr, pt, as, O⟩, G, kk⟩ := h
    refine ⟨_, pss_one (ps_ret (pe_lc (own := [("places", 1)]) rfl scChs.nd (pi_list (pe_fld (pv 0) rfl)) (blkOk_by (by show blkC ["self", "places"] (defScope sChs) _ [("places", 1)] = true; decide +kernel))
        (fun _ _ _ _ _ => pg_name (i := 1) scChs.nd rfl (Or.inl rfl)) (fun _ _ _ _ _ => pts_nil)
        (fun _ _ _ _ _ => pe_call GC hr rfl mgC kpC bC .nil pass0 (pa_cons (pv 1) (pa_cons (pe_callB (r := rLen K) call_len_seq (by rfl) hlen PySem.boot_len (pa_cons (pe_fldK (K := K) rfl (pv 0) rfl) pa_nil)) pa_nil))))), ?_⟩
    refine ⟨_, rfl, c, C, dx, _, _, rfl, O.obj, T.cl, T.nT, cf_turns _ _ _ _, pt, rfl, ⟨_, SqL.of O.lst⟩, fun D hD => ?_⟩
    refine lc_list (K := K) (xs := as.map V.ref) (fun i H' => H' D = some (.lst (nV ((fz z).take i))) ∧ Same H H') ⟨upd_same, same_new (Same.refl H) hD⟩ (fun i H' _ h => SqL.of (h.2 _ _ O.lst)) ?_ ?_
    · rintro i y H' hi ⟨hD', hS⟩
      obtain ⟨p, hp, rfl⟩ := refs_of hi
      obtain ⟨l, hl, hpl, _⟩ := nls_get O.turns hp
      have hfl : (fz z)[i]? = some (Uw80.flip z.row.length l) := by
        show ((Uw80.turns z.mode z.k z.row.length).map _)[i]? = _
        rw [List.getElem?_map, hl]
        rfl
      refine ⟨rfl, ?_⟩
      refine ⟨_, rfl, _, rfl, c, C, dx, _, _, rfl, hS _ _ O.obj, T.cl, T.nR, cf_row _ _ _ _, pr, _, rfl, .inl (SqL.of (hS _ _ O.row)), ?_⟩
      rw [nV_len]
      refine ⟨p, l, z.row.length, rfl, hS _ _ hpl, G.n10, Cm.turns_rising (List.mem_of_getElem? hl), fun H3 S3 => ?_⟩
      refine ⟨_, S3 _ _ hD', ?_, ?_, same_fresh (hS.trans S3) hD⟩
      · rw [nV_len, List.length_take]
        have := fz_len G
        exact sz10' (by omega)
      · rw [upd_same, Cm.take_snoc hfl, nV_app]
        rfl
    · rintro H' ⟨hD', hS⟩
      have e : (fz z).take (as.map V.ref).length = fz z := by
        apply List.take_of_length_le
        rw [List.length_map, nls_len O.turns]
        show ((Uw80.turns z.mode z.k z.row.length).map _).length ≤ _
        rw [List.length_map]
        exact Nat.le_refl _
      rw [e] at hD'
      exact kk H' D hS hD hD'
theorem scChTo : FnScope ["self", "row"] ["self", "row"] (defScope sChTo) := ⟨rfl, rfl, rfl, by decide +kernel, rfl, by decide +kernel, by decide +kernel⟩
theorem ok_chto {f fN C : Addr} {fd fdN : FuncData} (F : Fun K "change_to" "Coins.change_to" sChTo f fd) (T : Txt K C)
    (GN : FnOk P w K mg base CX0 1 fN fdN ["row"] spNum) (mgN : mg "as_number" = some (.ref fN)) (kpN : PySem.W.keepIn K (.ref fN) = true) (bN : Binds K fdN ["row"] []) :
    FnOk P w K mg base CX0 2 f fd ["self", "row"] (spChTo C) := by
  refine F.ok scChTo (fun vs H Q E h => ?_) (fun cdv A outer s H vs Q E hr h => ?_)
  · obtain ⟨c, z, a, l, rfl, _⟩ := h
    rfl
  · obtain ⟨c, z, a, l, rfl, ⟨dx, pr, pt, as, O⟩, G, ha, hl, hb, kk⟩ := h
    refine ⟨_, pss_one (ps_ret (pe_op op_xorN (pe_call GN hr rfl mgN kpN bN .nil pass0 (pa_cons (pe_fld (pv 0) rfl) pa_nil)) (pe_call GN hr rfl mgN kpN bN .nil pass0 (pa_cons (pv 1) pa_nil)))), ?_⟩
    exact ⟨_, rfl, c, C, dx, _, _, rfl, O.obj, T.cl, T.nR, cf_row _ _ _ _, pr, z.row, rfl, O.row, G.n10, G.bit, _, rfl, a, l, rfl, ha, hl, hb, Uw80.code z.row, Uw80.code l, rfl, rfl, kk⟩
theorem scRfs : FnScope ["self", "row"] ["self", "row"] (defScope sRfs) := ⟨rfl, rfl, rfl, by decide +kernel, rfl, by decide +kernel, by decide +kernel⟩
theorem ok_rfs {f fA fT fS fN C : Addr} {fd fdA fdT fdS fdN : FuncData} {t1 t6 : Tok} (F : Fun K "refusal" "Coins.refusal" sRfs f fd) (T : Txt K C) (hlen : mg "len" = none) (m1 : mg "NOT_COINS" = some (.int (-1) t1)) (m6 : mg "OUT_OF_REACH" = some (.int (-6) t6))
    (GA : FnOk P w K mg base CX0 1 fA fdA ["row"] spAll) (mgA : mg "all_coins" = some (.ref fA)) (kpA : PySem.W.keepIn K (.ref fA) = true) (bA : Binds K fdA ["row"] [])
    (GT : FnOk P w K mg base CX0 2 fT fdT ["self", "row"] (spChTo C)) (mT : Meth K C "change_to" fT) (bT : Binds K fdT ["self", "row"] [])
    (GS : FnOk P w K mg base CX0 3 fS fdS ["self"] (spChs C)) (mS : Meth K C "changes" fS) (bS : Binds K fdS ["self"] [])
    (GN : FnOk P w K mg base CX0 1 fN fdN ["changes"] spNeed) (mgN : mg "turns_needed" = some (.ref fN)) (kpN : PySem.W.keepIn K (.ref fN) = true) (bN : Binds K fdN ["changes"] []) :
    FnOk P w K mg base CX0 4 f fd ["self", "row"] (spRfs C) := by
  refine F.ok scRfs (fun vs H Q E h => ?_) (fun cdv A outer s H vs Q E hr h => ?_)
  · obtain ⟨c, z, a, l, rfl, _⟩ := h
    rfl
  · obtain ⟨c, z, a, l, rfl, ⟨dx, pr, pt, as, O⟩, G, ha, hl, kk⟩ := h
    have hu := hu_of hr
    have hr1 : Room 1 _ := hr.mono (by decide)
    have hr2 : Room 2 _ := hr.mono (by decide)
    refine ⟨_, pss_cons (ps_if (PW.pt (pw_or (pt_cmpR op_ne (pe_callB call_len_seq (by rfl) hlen PySem.boot_len (pa_cons (pv 1) pa_nil)) (pe_callB call_len_seq (by rfl) hlen PySem.boot_len (pa_cons (pe_fld (pv 0) rfl) pa_nil)) (nomark _))
        (pw_or1 (pt_not (pt_truth (pe_call GA hr1 rfl mgA kpA bA .nil pass0 (pa_cons (pv 1) pa_nil)) (fun _ => rfl)))))) (pss_one (ps_ret (pe_gi rfl m1))) pss_nil)
      (pss_one (ps_ret (pe_ifExp (pt_cmp (pc_din hu (pe_meth (pv 0) T.cl mT GT hr2 bT .nil pass0 (pa_cons (pv 1) pa_nil)) (pe_call GN hr1 rfl mgN kpN bN .nil pass0 (pa_cons (pe_meth0 (pv 0) T.cl mS GS hr bS .nil pass0) pa_nil)))) pe_int (pe_gi rfl m6)))), ?_⟩
    refine ⟨_, rfl, a, _, rfl, .inl (SqL.of ha), _, rfl, c, C, dx, _, _, rfl, O.obj, T.cl, T.nR, cf_row _ _ _ _, pr, _, rfl, .inl (SqL.of O.row), rfl, _, rfl, ?_⟩
    rw [nV_len, nV_len]
    by_cases hq : l.length = z.row.length
    · have e0 : decide (V.int (l.length : Int) = V.int (z.row.length : Int)) = true := decide_eq_true (by rw [hq])
      show if (!decide (V.int (l.length : Int) = V.int (z.row.length : Int))) = true then _ else _
      rw [e0]
      refine iteF ?_
      refine ⟨_, rfl, a, l, rfl, ha, hl, fun H1 S1 => ⟨_, rfl, ?_⟩⟩
      have O1 := O.kept S1
      have ha1 := S1 _ _ ha
      cases hb : bits l with
      | false =>
        refine iteT ?_
        have := kk H1 S1
        rw [ref_1 (ref_bad fun h => by rw [hb] at h; cases h.2)] at this
        exact this
      | true =>
        refine iteF ?_
        have hrow := isRow_iff.mpr ⟨hq, hb⟩
        have hbit := bits_iff.mp hb
        refine ⟨_, rfl, c, dx, _, rfl, O1.obj, cf_no _ _ _ _ (by decide +kernel) (by decide +kernel) (by decide +kernel) (by decide +kernel), _, rfl, c, z, a, l, rfl, ⟨dx, pr, pt, as, O1⟩, G, ha1, (by have := G.n10; omega), hbit, ?_⟩
        refine ⟨_, rfl, c, dx, _, rfl, O1.obj, cf_no _ _ _ _ (by decide +kernel) (by decide +kernel) (by decide +kernel) (by decide +kernel), c, z, rfl, ⟨dx, pr, pt, as, O1⟩, G, fun H2 q S2 hq1 hq2 => ?_⟩
        refine ⟨q, fz z, z.row.length, rfl, hq2, G.n10, fz_lt z, fun H3 p D S3 hp hp3 F0 hD => ?_⟩
        refine ⟨p, _, rfl, DGet.k (k := Sum.inl ((Uw80.code z.row ^^^ Uw80.code l : Nat) : Int)) hp3, _, rfl, ?_⟩
        rw [valV_dV]
        have S13 := (S1.trans S2).trans S3
        have fin := kk H3 S13
        rcases to_cases G ⟨hq, hb⟩ with ⟨pn, no⟩ | ⟨d, pl, hd, ps, _⟩
        · have e : D.lookup (Uw80.code z.row ^^^ Uw80.code l) = none := by
            cases e : D.lookup (Uw80.code z.row ^^^ Uw80.code l) with
            | none => rfl
            | some j => exact absurd (F0.look.mp e) (no j)
          rw [e]
          rw [ref_6 hrow pn] at fin
          exact iteF fin
        · rw [F0.look.mpr hd]
          rw [ref_0 hrow ps] at fin
          exact iteT fin
    · have e0 : decide (V.int (l.length : Int) = V.int (z.row.length : Int)) = false := decide_eq_false (by intro e; apply hq; injection e with e; omega)
      show if (!decide (V.int (l.length : Int) = V.int (z.row.length : Int))) = true then _ else _
      rw [e0]
      refine iteT ?_
      have := kk H (Same.refl H)
      rw [ref_1 (ref_bad fun h => hq h.1)] at this
      exact iteT this
end
end Cn
set_option Elab.async false
set_option maxRecDepth 100000
set_option maxHeartbeats 4000000
namespace Cn
open PySem PySem.Spec PyProof.Rows L2
theorem iV_one (n : Int) : iV [n] = [V.int n] := rfl
theorem step_to1 {z : Uw80.Coins} {l : List Nat} (h : Uw80.isRow z l = false) : Uw80.step z (.to l) = (z, [-1]) := by
  show (z, if Uw80.isRow z l = false then _ else _) = _
  rw [if_pos h]
theorem step_to6 {z : Uw80.Coins} {l : List Nat} (h : Uw80.isRow z l = true) (p : Uw80.planTo z l = none) : Uw80.step z (.to l) = (z, [-6]) := by
  show (z, if Uw80.isRow z l = false then [-1] else match Uw80.planTo z l with | none => [-6] | some p => Uw80.counted p) = _
  rw [if_neg (by rw [h]; decide), p]
theorem step_to0 {z : Uw80.Coins} {l p : List Nat} (h : Uw80.isRow z l = true) (e : Uw80.planTo z l = some p) : Uw80.step z (.to l) = (z, Uw80.counted p) := by
  show (z, if Uw80.isRow z l = false then [-1] else match Uw80.planTo z l with | none => [-6] | some p => Uw80.counted p) = _
  rw [if_neg (by rw [h]; decide), e]
theorem step_pl1 {z : Uw80.Coins} {l : List Nat} (h : Uw80.isRow z l = false) : Uw80.step z (.plans l) = (z, [-1]) := by
  show (z, if Uw80.isRow z l = false then _ else _) = _
  rw [if_pos h]
theorem step_pl6 {z : Uw80.Coins} {l : List Nat} (h : Uw80.isRow z l = true) (p : Uw80.planTo z l = none) : Uw80.step z (.plans l) = (z, [-6]) := by
  show (z, if Uw80.isRow z l = false then [-1] else match Uw80.planTo z l with | none => [-6] | some p => Uw80.ints [p.length, Uw80.countPlans z l p.length]) = _
  rw [if_neg (by rw [h]; decide), p]
theorem step_pl0 {z : Uw80.Coins} {l p : List Nat} (h : Uw80.isRow z l = true) (e : Uw80.planTo z l = some p) : Uw80.step z (.plans l) = (z, Uw80.ints [p.length, Uw80.countPlans z l p.length]) := by
  show (z, if Uw80.isRow z l = false then [-1] else match Uw80.planTo z l with | none => [-6] | some p => Uw80.ints [p.length, Uw80.countPlans z l p.length]) = _
  rw [if_neg (by rw [h]; decide), e]
/-- the ways of refusal -/
theorem ref_cases {z : Uw80.Coins} {l : List Nat} (G : Good z) : (refN z l = -1 ∧ Uw80.isRow z l = false) ∨ (refN z l = -6 ∧ Uw80.isRow z l = true ∧ Uw80.planTo z l = none) ∨
    (refN z l = 0 ∧ Uw80.isRow z l = true ∧ (l.length = z.row.length ∧ bits l = true) ∧ ∃ d p, Cm.Dist (Cm.nbX (fz z)) 0 (Uw80.code z.row ^^^ Uw80.code l) d ∧ Uw80.planTo z l = some p ∧ Cm.firstPlan (Cm.nbX (fz z)) 0 d (Uw80.code z.row ^^^ Uw80.code l) = some p ∧ p.length = d ∧
      Uw80.countPlans z l d = Cm.cnt (Cm.nbX (fz z)) 0 d (Uw80.code z.row ^^^ Uw80.code l)) := by
  cases h : Uw80.isRow z l with
  | false => exact .inl ⟨ref_1 h, rfl⟩
  | true =>
    rcases to_cases G (isRow_iff.mp h) with ⟨pn, no⟩ | ⟨d, pl, hd, ps, q⟩
    · exact .inr (.inl ⟨ref_6 h pn, rfl, pn⟩)
    · exact .inr (.inr ⟨ref_0 h ps, rfl, isRow_iff.mp h, d, pl, hd, ps, q⟩)
section
variable {P : Program} {w : World} {K : PySem.W.Frag} {mg : Str → Option Value} {base : Heap}
theorem scToM : FnScope ["self", "row", "refused", "plan"] ["self", "row"] (defScope sToM) := ⟨rfl, rfl, rfl, by decide +kernel, rfl, by decide +kernel, by decide +kernel⟩
theorem ok_to {f fR fT fS fP C : Addr} {fd fdR fdT fdS fdP : FuncData} (F : Fun K "to" "Coins.to" sToM f fd) (T : Txt K C) (hlen : mg "len" = none)
    (GR : FnOk P w K mg base CX0 4 fR fdR ["self", "row"] (spRfs C)) (mR : Meth K C "refusal" fR) (bR : Binds K fdR ["self", "row"] [])
    (GT : FnOk P w K mg base CX0 2 fT fdT ["self", "row"] (spChTo C)) (mT : Meth K C "change_to" fT) (bT : Binds K fdT ["self", "row"] [])
    (GS : FnOk P w K mg base CX0 3 fS fdS ["self"] (spChs C)) (mS : Meth K C "changes" fS) (bS : Binds K fdS ["self"] [])
    (GP : FnOk P w K mg base CX0 2 fP fdP ["wanted", "changes"] spPlan) (mgP : mg "first_plan" = some (.ref fP)) (kpP : PySem.W.keepIn K (.ref fP) = true) (bP : Binds K fdP ["wanted", "changes"] []) :
    FnOk P w K mg base CX0 5 f fd ["self", "row"] (spTo C) := by
  refine F.ok scToM (fun vs H Q E h => ?_) (fun cdv A outer s H vs Q E hr h => ?_)
  · obtain ⟨a, l, _, _, H0, c, z, rfl, _⟩ := h
    rfl
  · obtain ⟨a, l, ha, hl, H0, c, z, rfl, ⟨dx, pr, pt, as, O, Va⟩, Sb, G, kk⟩ := h
    have hr2 : Room 2 _ := hr.mono (by decide)
    have hr3 : Room 3 _ := hr.mono (by decide)
    refine ⟨_, pss_cons (ps_set (i := 2) scToM.nd rfl (Or.inl rfl) (pe_meth (pv 0) T.cl mR GR hr bR .nil pass0 (pa_cons (pv 1) pa_nil)))
      (pss_cons (ps_if (pt_cmpR op_ne (pv 2) pe_int (nomark _)) (pss_one (ps_ret (pe_lst (pa_cons (pv 2) pa_nil)))) pss_nil)
      (pss_cons (ps_set (i := 3) scToM.nd rfl (Or.inl rfl) (pe_call GP hr2 rfl mgP kpP bP .nil pass0 (pa_cons (pe_meth (pv 0) T.cl mT GT hr2 bT .nil pass0 (pa_cons (pv 1) pa_nil)) (pa_cons (pe_meth0 (pv 0) T.cl mS GS hr3 bS .nil pass0) pa_nil))))
      (pss_one (ps_ret (pe_op op_cat (pe_lst (pa_cons (pe_callB call_len_seq (by rfl) hlen PySem.boot_len (pa_cons (pv 3) pa_nil)) pa_nil)) (pv 3)))))), ?_⟩
    refine ⟨_, rfl, c, dx, _, rfl, O.obj, cf_no _ _ _ _ (by decide +kernel) (by decide +kernel) (by decide +kernel) (by decide +kernel), _, rfl, c, z, a, l, rfl, ⟨dx, pr, pt, as, O⟩, G, ha, hl, fun H1 S1 => ?_⟩
    have O1 := O.kept S1
    have ha1 := S1 _ _ ha
    refine ⟨_, rfl, rfl, _, rfl, ?_⟩
    rcases ref_cases (l := l) G with ⟨e, h1⟩ | ⟨e, h1, h2⟩ | ⟨e, h1, h2, d, p, hd, ep, efp, elen, ecn⟩
    · rw [e]
      refine iteT ⟨_, rfl, (by show 1 ≤ sizeLine; decide), fun t ht => ?_⟩
      have S2 : Same H (upd H1 t (.lst [V.int (-1)])) := same_new S1 ht
      rw [step_to1 h1] at kk
      exact kk _ t ⟨dx, pr, pt, as, O.kept S2, Va⟩ (Same.keptBut S2) (S1.free ht) upd_same
    · rw [e]
      refine iteT ⟨_, rfl, (by show 1 ≤ sizeLine; decide), fun t ht => ?_⟩
      have S2 : Same H (upd H1 t (.lst [V.int (-6)])) := same_new S1 ht
      rw [step_to6 h1 h2] at kk
      exact kk _ t ⟨dx, pr, pt, as, O.kept S2, Va⟩ (Same.keptBut S2) (S1.free ht) upd_same
    · rw [e]
      refine iteF ?_
      rw [step_to0 h1 ep] at kk
      refine ⟨_, rfl, c, dx, _, rfl, O1.obj, cf_no _ _ _ _ (by decide +kernel) (by decide +kernel) (by decide +kernel) (by decide +kernel), _, rfl, c, z, a, l, rfl, ⟨dx, pr, pt, as, O1⟩, G, ha1, (by have := G.n10; omega), bits_iff.mp h2.2, ?_⟩
      refine ⟨_, rfl, c, dx, _, rfl, O1.obj, cf_no _ _ _ _ (by decide +kernel) (by decide +kernel) (by decide +kernel) (by decide +kernel), c, z, rfl, ⟨dx, pr, pt, as, O1⟩, G, fun H2 q S2 hq1 hq2 => ?_⟩
      refine ⟨_, q, fz z, z.row.length, d, p, rfl, hq2, fz_len G, G.n10, fz_lt z, hd, efp, fun H3 b S3 hb hb3 hpl => ?_⟩
      have S13 := (S1.trans S2).trans S3
      refine ⟨_, rfl, b, _, rfl, .inl (SqL.of hb3), (by show 1 ≤ sizeLine; decide), fun t ht => ?_⟩
      have S4 : Same H (upd H3 t (.lst [V.int ((nV p).length : Int)])) := same_new S13 ht
      refine ⟨_, rfl, t, b, _, _, rfl, rfl, upd_same, upd_keep hb3 ht, ?_, fun y hy => ?_⟩
      · rw [nV_len]
        exact sz10 (by show 1 + p.length ≤ 2000; omega)
      · have S5 := same_new (o := HO.lst ([V.int ((nV p).length : Int)] ++ nV p)) S4 hy
        refine kk _ y ⟨dx, pr, pt, as, O.kept S5, Va⟩ (Same.keptBut S5) (S4.free hy) ?_
        rw [upd_same]
        show _ = some (HO.lst (V.int (p.length : Int) :: iV (Uw80.ints p)))
        rw [iV_ints, nV_len]
        rfl
theorem scPlansM : FnScope ["self", "row", "refused"] ["self", "row"] (defScope sPlansM) := ⟨rfl, rfl, rfl, by decide +kernel, rfl, by decide +kernel, by decide +kernel⟩
theorem ok_plansM {f fR fT fS fP C : Addr} {fd fdR fdT fdS fdP : FuncData} (F : Fun K "plans" "Coins.plans" sPlansM f fd) (T : Txt K C)
    (GR : FnOk P w K mg base CX0 4 fR fdR ["self", "row"] (spRfs C)) (mR : Meth K C "refusal" fR) (bR : Binds K fdR ["self", "row"] [])
    (GT : FnOk P w K mg base CX0 2 fT fdT ["self", "row"] (spChTo C)) (mT : Meth K C "change_to" fT) (bT : Binds K fdT ["self", "row"] [])
    (GS : FnOk P w K mg base CX0 3 fS fdS ["self"] (spChs C)) (mS : Meth K C "changes" fS) (bS : Binds K fdS ["self"] [])
    (GP : FnOk P w K mg base CX0 2 fP fdP ["wanted", "changes"] spTaP) (mgP : mg "turns_and_plans" = some (.ref fP)) (kpP : PySem.W.keepIn K (.ref fP) = true) (bP : Binds K fdP ["wanted", "changes"] []) :
    FnOk P w K mg base CX0 5 f fd ["self", "row"] (spPlansM C) := by
  refine F.ok scPlansM (fun vs H Q E h => ?_) (fun cdv A outer s H vs Q E hr h => ?_)
  · obtain ⟨a, l, _, _, H0, c, z, rfl, _⟩ := h
    rfl
  · obtain ⟨a, l, ha, hl, H0, c, z, rfl, ⟨dx, pr, pt, as, O, Va⟩, Sb, G, kk⟩ := h
    have hr2 : Room 2 _ := hr.mono (by decide)
    have hr3 : Room 3 _ := hr.mono (by decide)
    refine ⟨_, pss_cons (ps_set (i := 2) scPlansM.nd rfl (Or.inl rfl) (pe_meth (pv 0) T.cl mR GR hr bR .nil pass0 (pa_cons (pv 1) pa_nil)))
      (pss_cons (ps_if (pt_cmpR op_ne (pv 2) pe_int (nomark _)) (pss_one (ps_ret (pe_lst (pa_cons (pv 2) pa_nil)))) pss_nil)
      (pss_one (ps_ret (pe_call GP hr2 rfl mgP kpP bP .nil pass0 (pa_cons (pe_meth (pv 0) T.cl mT GT hr2 bT .nil pass0 (pa_cons (pv 1) pa_nil)) (pa_cons (pe_meth0 (pv 0) T.cl mS GS hr3 bS .nil pass0) pa_nil)))))), ?_⟩
    refine ⟨_, rfl, c, dx, _, rfl, O.obj, cf_no _ _ _ _ (by decide +kernel) (by decide +kernel) (by decide +kernel) (by decide +kernel), _, rfl, c, z, a, l, rfl, ⟨dx, pr, pt, as, O⟩, G, ha, hl, fun H1 S1 => ?_⟩
    have O1 := O.kept S1
    have ha1 := S1 _ _ ha
    refine ⟨_, rfl, rfl, _, rfl, ?_⟩
    rcases ref_cases (l := l) G with ⟨e, h1⟩ | ⟨e, h1, h2⟩ | ⟨e, h1, h2, d, p, hd, ep, efp, elen, ecn⟩
    · rw [e]
      refine iteT ⟨_, rfl, (by show 1 ≤ sizeLine; decide), fun t ht => ?_⟩
      have S2 : Same H (upd H1 t (.lst [V.int (-1)])) := same_new S1 ht
      rw [step_pl1 h1] at kk
      exact kk _ t ⟨dx, pr, pt, as, O.kept S2, Va⟩ (Same.keptBut S2) (S1.free ht) upd_same
    · rw [e]
      refine iteT ⟨_, rfl, (by show 1 ≤ sizeLine; decide), fun t ht => ?_⟩
      have S2 : Same H (upd H1 t (.lst [V.int (-6)])) := same_new S1 ht
      rw [step_pl6 h1 h2] at kk
      exact kk _ t ⟨dx, pr, pt, as, O.kept S2, Va⟩ (Same.keptBut S2) (S1.free ht) upd_same
    · rw [e]
      refine iteF ?_
      rw [step_pl0 h1 ep] at kk
      refine ⟨_, rfl, c, dx, _, rfl, O1.obj, cf_no _ _ _ _ (by decide +kernel) (by decide +kernel) (by decide +kernel) (by decide +kernel), _, rfl, c, z, a, l, rfl, ⟨dx, pr, pt, as, O1⟩, G, ha1, (by have := G.n10; omega), bits_iff.mp h2.2, ?_⟩
      refine ⟨_, rfl, c, dx, _, rfl, O1.obj, cf_no _ _ _ _ (by decide +kernel) (by decide +kernel) (by decide +kernel) (by decide +kernel), c, z, rfl, ⟨dx, pr, pt, as, O1⟩, G, fun H2 q S2 hq1 hq2 => ?_⟩
      refine ⟨_, q, fz z, z.row.length, d, rfl, hq2, fz_len G, G.n10, fz_lt z, hd, fun H3 b S3 hb hb3 => ?_⟩
      have S13 := (S1.trans S2).trans S3
      refine kk _ b ⟨dx, pr, pt, as, O.kept S13, Va⟩ (Same.keptBut S13) ((S1.trans S2).free hb) ?_
      rw [iV_ints, elen, ecn]
      exact hb3
theorem scRowsM : FnScope ["self"] ["self"] (defScope sRowsM) := ⟨rfl, rfl, rfl, by decide +kernel, rfl, by decide +kernel, by decide +kernel⟩
theorem ok_rowsM {f fS fN C : Addr} {fd fdS fdN : FuncData} (F : Fun K "rows" "Coins.rows" sRowsM f fd) (T : Txt K C) (hlen : mg "len" = none)
    (GS : FnOk P w K mg base CX0 3 fS fdS ["self"] (spChs C)) (mS : Meth K C "changes" fS) (bS : Binds K fdS ["self"] [])
    (GN : FnOk P w K mg base CX0 1 fN fdN ["changes"] spNeed) (mgN : mg "turns_needed" = some (.ref fN)) (kpN : PySem.W.keepIn K (.ref fN) = true) (bN : Binds K fdN ["changes"] []) :
    FnOk P w K mg base CX0 4 f fd ["self"] (spRowsM C) := by
  refine F.ok scRowsM (fun vs H Q E h => ?_) (fun cdv A outer s H vs Q E hr h => ?_)
  · obtain ⟨H0, c, z, rfl, _⟩ := h
    rfl
  · obtain ⟨H0, c, z, rfl, ⟨dx, pr, pt, as, O, Va⟩, Sb, G, kk⟩ := h
    have hr1 : Room 1 _ := hr.mono (by decide)
    refine ⟨_, pss_one (ps_ret (pe_lst (pa_cons (pe_callB call_lenD (by rfl) hlen PySem.boot_len (pa_cons (pe_call GN hr1 rfl mgN kpN bN .nil pass0 (pa_cons (pe_meth0 (pv 0) T.cl mS GS hr bS .nil pass0) pa_nil)) pa_nil)) pa_nil))), ?_⟩
    refine ⟨_, rfl, c, dx, _, rfl, O.obj, cf_no _ _ _ _ (by decide +kernel) (by decide +kernel) (by decide +kernel) (by decide +kernel), c, z, rfl, ⟨dx, pr, pt, as, O⟩, G, fun H2 q S2 hq1 hq2 => ?_⟩
    refine ⟨q, fz z, z.row.length, rfl, hq2, G.n10, fz_lt z, fun H3 p D S3 hp hp3 F0 hD => ?_⟩
    refine ⟨p, _, rfl, hp3, (by show 1 ≤ sizeLine; decide), fun t ht => ?_⟩
    have S23 := S2.trans S3
    have S4 : Same H (upd H3 t (.lst [V.int ((dV D).length : Int)])) := same_new S23 ht
    refine kk _ t ⟨dx, pr, pt, as, O.kept S4, Va⟩ (Same.keptBut S4) (S23.free ht) ?_
    rw [upd_same, dV_len]
    show _ = some (HO.lst [V.int ((Uw80.reached z).length : Int)])
    rw [Cm.rows_D G.ok F0]
theorem scFarM : FnScope ["self", "needed", "most", "far", "made"] ["self"] (defScope sFarM) := ⟨rfl, rfl, rfl, by decide +kernel, rfl, by decide +kernel, by decide +kernel⟩
theorem take_filterD {p : Nat × Nat → Bool} {D : List (Nat × Nat)} {i : Nat} {x : Nat × Nat} (h : D[i]? = some x) : (D.take (i + 1)).filter p = (D.take i).filter p ++ (if p x = true then [x] else []) := by
  rw [Cm.take_snoc h, List.filter_append]
  cases e : p x with
  | true => rw [List.filter_cons_of_pos e]; rfl
  | false => rw [List.filter_cons_of_neg (by rw [e]; exact Bool.false_ne_true)]; rfl
theorem ok_farM {f fS fN fM fR C : Addr} {fd fdS fdN fdM fdR : FuncData} (F : Fun K "farthest" "Coins.farthest" sFarM f fd) (T : Txt K C) (hlen : mg "len" = none) (hmax : mg "max" = none) (hmin : mg "min" = none)
    (GS : FnOk P w K mg base CX0 3 fS fdS ["self"] (spChs C)) (mS : Meth K C "changes" fS) (bS : Binds K fdS ["self"] [])
    (GN : FnOk P w K mg base CX0 1 fN fdN ["changes"] spNeed) (mgN : mg "turns_needed" = some (.ref fN)) (kpN : PySem.W.keepIn K (.ref fN) = true) (bN : Binds K fdN ["changes"] [])
    (GM : FnOk P w K mg base CX0 1 fM fdM ["row"] spNum) (mgM : mg "as_number" = some (.ref fM)) (kpM : PySem.W.keepIn K (.ref fM) = true) (bM : Binds K fdM ["row"] [])
    (GR : FnOk P w K mg base CX0 1 fR fdR ["number", "coins"] spRowOf) (mgR : mg "as_row" = some (.ref fR)) (kpR : PySem.W.keepIn K (.ref fR) = true) (bR : Binds K fdR ["number", "coins"] []) :
    FnOk P w K mg base CX0 4 f fd ["self"] (spFarM C) := by
  refine F.ok scFarM (fun vs H Q E h => ?_) (fun cdv A outer s H vs Q E hr h => ?_)
  · obtain ⟨H0, c, z, rfl, _⟩ := h
    rfl
  · obtain ⟨H0, c, z, rfl, ⟨dx, pr, pt, as, O, Va⟩, Sb, G, kk⟩ := h
    have hu := hu_of hr
    have hr1 : Room 1 _ := hr.mono (by decide)
    refine ⟨_, pss_cons (ps_set (i := 1) scFarM.nd rfl (Or.inr rfl) (pe_call GN hr1 rfl mgN kpN bN .nil pass0 (pa_cons (pe_meth0 (pv 0) T.cl mS GS hr bS .nil pass0) pa_nil)))
      (pss_cons (ps_set (i := 2) scFarM.nd rfl (Or.inr rfl) (pe_maxV rfl (by rfl) hmax (pv 1)))
      (pss_cons (ps_lock (ps_setLc (i := 3) (own := [("made", 4)]) rfl scFarM.nd rfl rfl (sw_true rfl rfl rfl rfl) (pi_keys (pv 1)) (blkOk_by (by show blkC ["self", "needed", "most", "far", "made"] (defScope sFarM) _ [("made", 4)] = true; decide +kernel))
        (fun _ _ _ _ _ => pg_name (i := 4) scFarM.nd rfl (Or.inl rfl)) (fun _ _ _ _ _ => pts_one (pt_cmpR op_eq (pe_dget hu (pv 1) (pv 4) (fun _ _ => rfl)) (pv 2) (nomark _)))
        (fun _ _ _ _ _ => pe_op op_xorN (pe_call GM hr1 rfl mgM kpM bM .nil pass0 (pa_cons (pe_fldK (K := K) rfl (pv 0) rfl) pa_nil)) (pv 4))))
      (pss_one (ps_ret (pe_op op_cat (pe_lst (pa_cons (pv 2) (pa_cons (pe_callB call_len_seq (by rfl) hlen PySem.boot_len (pa_cons (pv 3) pa_nil)) pa_nil)))
        (pe_call GR hr1 rfl mgR kpR bR .nil pass0 (pa_cons (pe_callB (cr_min rfl) (by rfl) hmin boot_min (pa_cons (pv 3) pa_nil)) (pa_cons (pe_callB call_len_seq (by rfl) hlen PySem.boot_len (pa_cons (pe_fld (pv 0) rfl) pa_nil)) pa_nil)))))))), ?_⟩
    refine ⟨_, rfl, c, dx, _, rfl, O.obj, cf_no _ _ _ _ (by decide +kernel) (by decide +kernel) (by decide +kernel) (by decide +kernel), c, z, rfl, ⟨dx, pr, pt, as, O⟩, G, fun H2 q S2 hq1 hq2 => ?_⟩
    refine ⟨q, fz z, z.row.length, rfl, hq2, G.n10, fz_lt z, fun H3 p D S3 hp hp3 F0 hD => ?_⟩
    have S23 := S2.trans S3
    have hpH : H p = none := S2.free hp
    have hpos : 0 < D.length := by
      have := F0.head
      rw [List.getElem?_eq_some_iff] at this
      exact this.1
    refine ⟨_, rfl, p, D, rfl, .inl hp3, hpos, fun M hM top => ?_⟩
    refine ⟨p, .dK (dV D), hp3, True.intro, fun od => ?_⟩
    have S4 : Same H (upd H3 p (.frz od (.dK (dV D)))) := same_fresh S23 hpH
    refine ⟨_, rfl, p, od, rfl, .inl ⟨dV D, upd_same, fun B hB => ?_⟩⟩
    have nBp : B ≠ p := fun e => by rw [e, upd_same] at hB; cases hB
    have hBH : H B = none := S4.free hB
    refine lc_keys (fun i H' => H' B = some (.lst (nV (((D.take i).filter fun x => x.2 == M).map fun x => Uw80.code z.row ^^^ x.1))) ∧ Same H H' ∧ H' p = some (.frz od (.dK (dV D)))) ⟨upd_same, same_new S4 hB, upd_keep upd_same hB⟩ (fun i H' _ h => h.2.2) ?_ ?_
    · rintro i k v H' hi ⟨hB', hS, hp'⟩
      obtain ⟨e, j, hij, rfl, rfl⟩ := dV_get hi
      have lk : D.lookup e = some j := (Cm.look_iff F0.nd).mpr (List.mem_of_getElem? hij)
      have hlt : (nV (((D.take i).filter fun x => x.2 == M).map fun x => Uw80.code z.row ^^^ x.1)).length < sizeLine := by
        rw [nV_len, List.length_map]
        have := List.length_filter_le (fun x : Nat × Nat => x.2 == M) (D.take i)
        rw [List.length_take] at this
        exact sz10' (by omega)
      refine ⟨rfl, ?_⟩
      refine ⟨_, rfl, _, rfl, p, _, rfl, dget (.inr ⟨od, hp'⟩) lk, _, rfl, rfl, _, rfl, ?_⟩
      by_cases hj : j = M
      · subst hj
        have e0 : decide (V.int (j : Int) = V.int (j : Int)) = true := decide_eq_true rfl
        rw [e0]
        refine iteT ⟨_, rfl, c, C, dx, _, _, rfl, hS _ _ O.obj, T.cl, T.nR, cf_row _ _ _ _, pr, z.row, rfl, hS _ _ O.row, G.n10, G.bit, _, rfl, Uw80.code z.row, e, rfl, rfl, _, hB', hlt, ?_, same_fresh hS hBH, ?_⟩
        · rw [upd_same, take_filterD hij, if_pos (beq_self_eq_true j), List.map_append, nV_app]
          rfl
        · rw [upd_ne (Ne.symm nBp)]
          exact hp'
      · have e0 : decide (V.int (j : Int) = V.int (M : Int)) = false := decide_eq_false (by intro z; apply hj; injection z with z; omega)
        rw [e0]
        refine iteF ⟨?_, hS, hp'⟩
        rw [take_filterD hij, if_neg (by intro z; exact hj (beq_iff_eq.mp z)), List.append_nil]
        exact hB'
    · rintro H' ⟨hB', hS, hp'⟩
      rw [dV_len, List.take_length] at hB'
      refine ⟨hp', ?_⟩
      generalize hfar : ((D.filter fun x => x.2 == M).map fun x => Uw80.code z.row ^^^ x.1) = far at hB'
      have hflen : far.length = (D.filter fun x => x.2 == M).length := by rw [← hfar, List.length_map]
      have hfl2 : far.length ≤ 1024 := by
        rw [hflen]
        exact Nat.le_trans (List.length_filter_le _ _) hD
      have fpos : 0 < far.length := by
        obtain ⟨x, hx, ex⟩ := hM
        rw [hflen]
        exact List.length_pos_of_mem (List.mem_filter.mpr ⟨hx, beq_iff_eq.mpr ex⟩)
      have S5 : Same H (upd H' p (.dK (dV D))) := same_fresh hS hpH
      have hB5 : (upd H' p (.dK (dV D))) B = some (.lst (nV far)) := by rw [upd_ne nBp]; exact hB'
      refine ⟨_, rfl, _, rfl, B, _, rfl, .inl (SqL.of hB5), (by show 2 ≤ sizeLine; decide), fun t ht => ?_⟩
      have S6 : Same H (upd (upd H' p (.dK (dV D))) t (.lst [V.int (M : Int), V.int ((nV far).length : Int)])) := same_new S5 ht
      have hB6 := upd_keep (o' := HO.lst [V.int (M : Int), V.int ((nV far).length : Int)]) hB5 ht
      refine ⟨_, rfl, B, far.map fun (n : Nat) => (n : Int), rfl, SqL.of (by rw [← nV_ints]; exact hB6), (by rw [List.length_map]; exact fpos), fun m hm hmin' => ?_⟩
      obtain ⟨b, hb, rfl⟩ := List.mem_map.mp hm
      refine ⟨_, rfl, c, C, dx, _, _, rfl, S6 _ _ O.obj, T.cl, T.nR, cf_row _ _ _ _, pr, _, rfl, .inl (SqL.of (S6 _ _ O.row)), ?_⟩
      rw [nV_len]
      refine ⟨b, z.row.length, rfl, G.n10, fun H7 r S7 hr7 hr8 => ?_⟩
      have S67 := S6.trans S7
      refine ⟨t, r, _, _, rfl, rfl, S7 _ _ upd_same, hr8, ?_, fun y hy => ?_⟩
      · rw [nV_len (Uw80.rowOf _ _), Cm.rowOf_len]
        exact sz10 (by show 2 + z.row.length ≤ 2000; have := G.n10; omega)
      · have S8 := same_new (o := HO.lst ([V.int (M : Int), V.int ((nV far).length : Int)] ++ nV (Uw80.rowOf z.row.length b))) S67 hy
        refine kk _ y ⟨dx, pr, pt, as, O.kept S8, Va⟩ (Same.keptBut S8) (S67.free hy) ?_
        have res := Cm.farthest_D G.ok F0 (M := M) (b := b) top (by rw [hfar]; exact hb) (by
          rw [hfar]
          intro c' hc'
          have := hmin' (c' : Int) (List.mem_map.mpr ⟨c', hc', rfl⟩)
          exact Int.ofNat_le.mp this)
        rw [upd_same, res, iV_ints, nV_app, nV_len, hflen]
        rfl
end
end Cn
set_option Elab.async false
set_option maxRecDepth 100000
set_option maxHeartbeats 4000000
/-! The calls, one after another. -/
namespace Cn
open PySem PySem.Spec PyProof.Rows L2
abbrev sEnd : Stmt := top 32
abbrev sAnswer : Stmt := top 33
abbrev sAnswers : Stmt := top 34
theorem iV_len (l : List Int) : (iV l).length = l.length := by simp [iV]
theorem iV_get {l : List Int} {i : Nat} {x : Int} (h : l[i]? = some x) : (iV l)[i]? = some (V.int x) := by
  unfold iV
  rw [List.getElem?_map, h]
  rfl
theorem cut_mid (pre mid post : List V) {i j : Nat} (hi : i = pre.length) (hj : j = pre.length + mid.length) : cutV (pre ++ (mid ++ post)) (some (i : Int)) (some (j : Int)) = mid := by
  subst hi hj
  unfold cutV
  rw [HT.sIx_nat, HT.sIx_nat]
  have e1 : min pre.length (pre ++ (mid ++ post)).length = pre.length := Nat.min_eq_left (by rw [List.length_append]; omega)
  have e2 : min (pre.length + mid.length) (pre ++ (mid ++ post)).length = pre.length + mid.length := Nat.min_eq_left (by rw [List.length_append, List.length_append]; omega)
  rw [e1, e2, List.drop_left, Nat.add_sub_cancel_left, List.take_left]
theorem cut_from (pre l : List V) {i : Nat} (hi : i = pre.length) : cutV (pre ++ l) (some (i : Int)) none = l := by
  subst hi
  unfold cutV
  rw [HT.sIx_nat, HT.sIx_none]
  have e1 : min pre.length (pre ++ l).length = pre.length := Nat.min_eq_left (by rw [List.length_append]; omega)
  rw [e1, List.drop_left, List.length_append, Nat.add_sub_cancel_left, List.take_length]
theorem mid_get {pre r : List Int} {j : Nat} {x : Int} (h : r[j]? = some x) : (pre ++ r)[pre.length + j]? = some x := by
  rw [List.getElem?_append_right (by omega), Nat.add_sub_cancel_left]
  exact h
def wD : List (Int × Int) := [(0, 2), (1, 1), (2, 1), (3, 0), (4, 0), (5, 0), (6, 0), (7, 0)]
theorem head_of (x : Uw80.Call) : ∃ k w : Nat, (Cm.flat x)[0]? = some (k : Int) ∧ wD.lookup (k : Int) = some (w : Int) ∧
    ((inV (.int (k : Int)) [.int 0, .int 4, .int 5] = true ∧ ∃ len : Nat, (Cm.flat x)[1 + w]? = some (len : Int) ∧ (Cm.flat x).length = 1 + w + 1 + len) ∨ (inV (.int (k : Int)) [.int 0, .int 4, .int 5] = false ∧ (Cm.flat x).length = 1 + w)) := by
  cases x with
  | coins m k l => exact ⟨0, 2, rfl, rfl, .inl ⟨rfl, l.length, rfl, by rw [Cm.flat, List.length_append, Cm.ints_len]; show 4 + _ = _; omega⟩⟩
  | turn i => exact ⟨1, 1, rfl, rfl, .inr ⟨rfl, rfl⟩⟩
  | places i => exact ⟨2, 1, rfl, rfl, .inr ⟨rfl, rfl⟩⟩
  | shows => exact ⟨3, 0, rfl, rfl, .inr ⟨rfl, rfl⟩⟩
  | to l => exact ⟨4, 0, rfl, rfl, .inl ⟨rfl, l.length, rfl, by rw [Cm.flat, List.length_append, Cm.ints_len]; show 2 + _ = _; omega⟩⟩
  | plans l => exact ⟨5, 0, rfl, rfl, .inl ⟨rfl, l.length, rfl, by rw [Cm.flat, List.length_append, Cm.ints_len]; show 2 + _ = _; omega⟩⟩
  | rows => exact ⟨6, 0, rfl, rfl, .inr ⟨rfl, rfl⟩⟩
  | farthest => exact ⟨7, 0, rfl, rfl, .inr ⟨rfl, rfl⟩⟩
def spEnd (K : PySem.W.Frag) : Sp := fun vs H Q _ => ∃ (a : Addr) (pre post : List Int) (x : Uw80.Call), vs = [.ref a, .int (pre.length : Nat)] ∧ SqL K H a (iV (pre ++ (Cm.flat x ++ post))) ∧
  ∀ H' : Hp, Same H H' → Q (.int ((pre.length + (Cm.flat x).length : Nat) : Int)) H'
def spAnswer (C : Addr) : Sp := fun vs H Q _ => ∃ (H0 : Hp) (c a : Addr) (z : Uw80.Coins) (x : Uw80.Call), vs = [.ref c, .ref a] ∧ IsCoinsA H0 C H c z ∧ Sub H0 H ∧ Good z ∧ H a = some (.lst (iV (Cm.flat x))) ∧ Cm.Bnd x ∧
  ∀ (H' : Hp) (p : Addr), IsCoinsA H0 C H' c (Uw80.step z x).1 → Kept c H H' → H p = none → H' p = some (.lst (iV (Uw80.step z x).2)) → Q (.ref p) H'
section
variable {P : Program} {w : World} {K : PySem.W.Frag} {mg : Str → Option Value} {base : Heap}
theorem scEnd : FnScope ["calls", "start", "end"] ["calls", "start"] (defScope sEnd) := ⟨rfl, rfl, rfl, by decide +kernel, rfl, by decide +kernel, by decide +kernel⟩
theorem ok_end {f dW : Addr} {fd : FuncData} {t0 t4 t5 : Tok} (F : Fun K "end_of_call" "end_of_call" sEnd f fd) (mgW : mg "WHOLE_NUMBERS" = some (.ref dW)) (TW : TopD K dW wD)
    (m0 : mg "COINS" = some (.int 0 t0)) (m4 : mg "TO" = some (.int 4 t4)) (m5 : mg "PLANS" = some (.int 5 t5)) : FnOk P w K mg base CX0 1 f fd ["calls", "start"] (spEnd K) := by
  refine F.ok scEnd (fun vs H Q E h => ?_) (fun cdv A outer s H vs Q E hr h => ?_)
  · obtain ⟨a, pre, post, x, rfl, _⟩ := h
    rfl
  · obtain ⟨a, pre, post, x, rfl, hS, kk⟩ := h
    refine ⟨_, pss_cons (ps_set (i := 2) scEnd.nd rfl (Or.inl rfl) (pe_op op_add (pe_op op_add (pv 1) pe_int) (pe_ix ix_top (pe_glob (v := .ref dW) rfl mgW rfl (by decide)) (pe_ix ix_list (pv 0) (pv 1) (fun _ _ => rfl)) (fun _ _ => rfl))))
      (pss_cons (ps_if (pt_cmpR op_in_seq (pe_ix ix_list (pv 0) (pv 1) (fun _ _ => rfl)) (pe_tup (pa_cons (pe_gi rfl m0) (pa_cons (pe_gi rfl m4) (pa_cons (pe_gi rfl m5) pa_nil)))) rfl)
        (pss_one (ps_ret (pe_op op_add (pe_op op_add (pv 2) pe_int) (pe_ix ix_list (pv 0) (pv 2) (fun _ _ => rfl))))) pss_nil)
      (pss_one (ps_ret (pv 2)))), ?_⟩
    obtain ⟨k, wn, hk, hw, hrest⟩ := head_of x
    have hne : ∀ {j : Nat} {y : Int}, (Cm.flat x)[j]? = some y → (iV (pre ++ (Cm.flat x ++ post)))[pre.length + j]? = some (V.int y) := fun {j y} h => iV_get (mid_get (by
      rw [List.getElem?_append_left (List.getElem?_eq_some_iff.mp h).1]
      exact h))
    have at0 : atI (iV (pre ++ (Cm.flat x ++ post))) ((pre.length : Nat) : Int) = some (V.int (k : Int)) := atI_nat (hne hk)
    refine ⟨_, rfl, _, _, rfl, rfl, _, rfl, _, rfl, a, _, _, _, rfl, rfl, hS, at0, dW, wD, _, _, rfl, rfl, TW, hw, _, _, rfl, rfl, ?_⟩
    have e1 : ((pre.length : Nat) : Int) + 1 + (wn : Int) = ((pre.length + (1 + wn) : Nat) : Int) := by omega
    have e1' : (fun i j : Int => V.int (i + j)) (((pre.length : Nat) : Int) + 1) (wn : Int) = V.int ((pre.length + (1 + wn) : Nat) : Int) := congrArg V.int e1
    rw [e1']
    refine ⟨_, rfl, _, rfl, a, _, _, _, rfl, rfl, hS, at0, (by show 3 ≤ sizeLine; decide), fun t ht => ?_⟩
    have S1 : Same H (upd H t (.tup [.int 0, .int 4, .int 5])) := same_new (Same.refl H) ht
    refine ⟨t, _, rfl, .inr (SqT.of upd_same), rfl, rfl, _, rfl, ?_⟩
    show if inV (.int (k : Int)) [.int 0, .int 4, .int 5] = true then _ else _
    rcases hrest with ⟨hin, len, hl, hlen⟩ | ⟨hin, hlen⟩
    · rw [hin]
      refine iteT ⟨_, rfl, _, _, rfl, rfl, _, rfl, _, rfl, a, _, _, _, rfl, rfl, S1.seq hS, atI_nat (hne hl), _, _, rfl, rfl, ?_⟩
      have e2 : ((pre.length + (1 + wn) : Nat) : Int) + 1 + (len : Int) = ((pre.length + (Cm.flat x).length : Nat) : Int) := by omega
      have := kk _ S1
      rw [← e2] at this
      exact this
    · rw [hin]
      refine iteF ⟨_, rfl, ?_⟩
      have := kk _ S1
      rw [hlen] at this
      exact this
theorem call_up {C c : Addr} {z : Uw80.Coins} {x : Uw80.Call} {H0 H Hs : Hp} {Q : VK} (S : Same H Hs) (kk : ∀ (H' : Hp) (p : Addr), IsCoinsA H0 C H' c (Uw80.step z x).1 → Kept c H H' → H p = none → H' p = some (.lst (iV (Uw80.step z x).2)) → Q (.ref p) H') :
    ∀ (H' : Hp) (p : Addr), IsCoinsA H0 C H' c (Uw80.step z x).1 → Kept c Hs H' → Hs p = none → H' p = some (.lst (iV (Uw80.step z x).2)) → Q (.ref p) H' :=
  fun H' p h1 h2 h3 h4 => kk H' p h1 (fun b o e hb => h2 b o (S b o e) hb) (S.free h3) h4
theorem scAnswer : FnScope ["coins", "call"] ["coins", "call"] (defScope sAnswer) := ⟨rfl, rfl, rfl, by decide +kernel, rfl, by decide +kernel, by decide +kernel⟩
theorem ok_answer {f C fL fU fP fS fT fN fR fF : Addr} {fd fdL fdU fdP fdS fdT fdN fdR fdF : FuncData} {t0 t1 t2 t3 t4 t5 t6 : Tok} (F : Fun K "answer" "answer" sAnswer f fd) (T : Txt K C)
    (m0 : mg "COINS" = some (.int 0 t0))
    (m1 : mg "TURN" = some (.int 1 t1))
    (m2 : mg "PLACES" = some (.int 2 t2))
    (m3 : mg "SHOWS" = some (.int 3 t3))
    (m4 : mg "TO" = some (.int 4 t4))
    (m5 : mg "PLANS" = some (.int 5 t5))
    (m6 : mg "ROWS" = some (.int 6 t6))
    (GL : FnOk P w K mg base CX0 4 fL fdL ["self", "mode", "k", "row"] (spLay C)) (qL : Meth K C "lay" fL) (bL : Binds K fdL ["self", "mode", "k", "row"] [])
    (GU : FnOk P w K mg base CX0 2 fU fdU ["self", "number"] (spTurn C)) (qU : Meth K C "turn" fU) (bU : Binds K fdU ["self", "number"] [])
    (GP : FnOk P w K mg base CX0 2 fP fdP ["self", "number"] (spPlaces C)) (qP : Meth K C "places" fP) (bP : Binds K fdP ["self", "number"] [])
    (GS : FnOk P w K mg base CX0 1 fS fdS ["self"] (spShows C)) (qS : Meth K C "shows" fS) (bS : Binds K fdS ["self"] [])
    (GT : FnOk P w K mg base CX0 5 fT fdT ["self", "row"] (spTo C)) (qT : Meth K C "to" fT) (bT : Binds K fdT ["self", "row"] [])
    (GN : FnOk P w K mg base CX0 5 fN fdN ["self", "row"] (spPlansM C)) (qN : Meth K C "plans" fN) (bN : Binds K fdN ["self", "row"] [])
    (GR : FnOk P w K mg base CX0 4 fR fdR ["self"] (spRowsM C)) (qR : Meth K C "rows" fR) (bR : Binds K fdR ["self"] [])
    (GF : FnOk P w K mg base CX0 4 fF fdF ["self"] (spFarM C)) (qF : Meth K C "farthest" fF) (bF : Binds K fdF ["self"] []) :
    FnOk P w K mg base CX0 6 f fd ["coins", "call"] (spAnswer C) := by
  refine F.ok scAnswer (fun vs H Q E h => ?_) (fun cdv A outer s H vs Q E hr h => ?_)
  · obtain ⟨H0, c, a, z, x, rfl, _⟩ := h
    rfl
  · obtain ⟨H0, c, a, z, x, rfl, ⟨dx, pr, pt, as, O, Va⟩, Sb, G, ha, hB, kk⟩ := h
    have hr1 : Room 1 _ := hr.mono (by decide)
    have hr2 : Room 2 _ := hr.mono (by decide)
    have hr4 : Room 4 _ := hr.mono (by decide)
    refine ⟨_, pss_cons (ps_if (pt_cmpR op_eq (pe_ix ix_list (pv 1) pe_int (fun _ _ => rfl)) (pe_gi rfl m0) (nomark _)) (pss_one (ps_ret (pe_meth (pv 0) T.cl qL GL hr4 bL .nil pass0 (pa_cons (pe_ix ix_list (pv 1) pe_int (fun _ _ => rfl)) (pa_cons (pe_ix ix_list (pv 1) pe_int (fun _ _ => rfl)) (pa_cons (pe_slice sl_list (pv 1) (po_some pe_int) po_none) pa_nil)))))) pss_nil)
      (pss_cons (ps_if (pt_cmpR op_eq (pe_ix ix_list (pv 1) pe_int (fun _ _ => rfl)) (pe_gi rfl m1) (nomark _)) (pss_one (ps_ret (pe_meth (pv 0) T.cl qU GU hr2 bU .nil pass0 (pa_cons (pe_ix ix_list (pv 1) pe_int (fun _ _ => rfl)) pa_nil)))) pss_nil)
      (pss_cons (ps_if (pt_cmpR op_eq (pe_ix ix_list (pv 1) pe_int (fun _ _ => rfl)) (pe_gi rfl m2) (nomark _)) (pss_one (ps_ret (pe_meth (pv 0) T.cl qP GP hr2 bP .nil pass0 (pa_cons (pe_ix ix_list (pv 1) pe_int (fun _ _ => rfl)) pa_nil)))) pss_nil)
      (pss_cons (ps_if (pt_cmpR op_eq (pe_ix ix_list (pv 1) pe_int (fun _ _ => rfl)) (pe_gi rfl m3) (nomark _)) (pss_one (ps_ret (pe_meth0 (pv 0) T.cl qS GS hr1 bS .nil pass0))) pss_nil)
      (pss_cons (ps_if (pt_cmpR op_eq (pe_ix ix_list (pv 1) pe_int (fun _ _ => rfl)) (pe_gi rfl m4) (nomark _)) (pss_one (ps_ret (pe_meth (pv 0) T.cl qT GT hr bT .nil pass0 (pa_cons (pe_slice sl_list (pv 1) (po_some pe_int) po_none) pa_nil)))) pss_nil)
      (pss_cons (ps_if (pt_cmpR op_eq (pe_ix ix_list (pv 1) pe_int (fun _ _ => rfl)) (pe_gi rfl m5) (nomark _)) (pss_one (ps_ret (pe_meth (pv 0) T.cl qN GN hr bN .nil pass0 (pa_cons (pe_slice sl_list (pv 1) (po_some pe_int) po_none) pa_nil)))) pss_nil)
      (pss_cons (ps_if (pt_cmpR op_eq (pe_ix ix_list (pv 1) pe_int (fun _ _ => rfl)) (pe_gi rfl m6) (nomark _)) (pss_one (ps_ret (pe_meth0 (pv 0) T.cl qR GR hr4 bR .nil pass0))) pss_nil)
      (pss_one (ps_ret (pe_meth0 (pv 0) T.cl qF GF hr4 bF .nil pass0))))))))), ?_⟩
    cases x with
    | coins m k l =>
      refine ⟨_, rfl, a, _, _, _, rfl, rfl, SqL.of ha, atI_nat (j := 0) rfl, rfl, _, rfl, iteT ?_⟩
      have ecut : cutV (iV (Cm.flat (.coins m k l))) (some ((4 : Nat) : Int)) none = nV l := by
        have e : iV (Cm.flat (.coins m k l)) = [V.int 0, V.int (m : Int), V.int (k : Int), V.int (l.length : Int)] ++ nV l := by
          rw [← iV_ints]
          simp [iV, Cm.flat]
        rw [e]
        exact cut_from _ _ rfl
      refine ⟨_, rfl, c, dx, _, rfl, O.obj, cf_no _ _ _ _ (by decide +kernel) (by decide +kernel) (by decide +kernel) (by decide +kernel), _, rfl, a, _, _, _, rfl, rfl, SqL.of ha, atI_nat (j := 1) rfl, _, rfl, a, _, _, _, rfl, rfl, SqL.of ha, atI_nat (j := 2) rfl, _, rfl, _, rfl, a, _, rfl, SqL.of ha, fun p hp => ?_⟩
      have S1 : Same H (upd H p (.lst (cutV (iV (Cm.flat (.coins m k l))) (some ((4 : Nat) : Int)) none))) := same_new (Same.refl H) hp
      exact ⟨m, k, p, l, by rw [← ecut]; exact upd_same, hB.2.2.1, H0, c, z, rfl, ⟨dx, pr, pt, as, O.kept S1, Va⟩, fun b hb => Sb b (S1.free hb), G, call_up S1 kk⟩
    | turn i =>
      refine ⟨_, rfl, a, _, _, _, rfl, rfl, SqL.of ha, atI_nat (j := 0) rfl, rfl, _, rfl, iteF ?_⟩
      refine ⟨_, rfl, a, _, _, _, rfl, rfl, SqL.of ha, atI_nat (j := 0) rfl, rfl, _, rfl, iteT ?_⟩
      exact ⟨_, rfl, c, dx, _, rfl, O.obj, cf_no _ _ _ _ (by decide +kernel) (by decide +kernel) (by decide +kernel) (by decide +kernel), _, rfl, a, _, _, _, rfl, rfl, SqL.of ha, atI_nat (j := 1) rfl, i, H0, c, z, rfl, ⟨dx, pr, pt, as, O, Va⟩, Sb, G, kk⟩
    | places i =>
      refine ⟨_, rfl, a, _, _, _, rfl, rfl, SqL.of ha, atI_nat (j := 0) rfl, rfl, _, rfl, iteF ?_⟩
      refine ⟨_, rfl, a, _, _, _, rfl, rfl, SqL.of ha, atI_nat (j := 0) rfl, rfl, _, rfl, iteF ?_⟩
      refine ⟨_, rfl, a, _, _, _, rfl, rfl, SqL.of ha, atI_nat (j := 0) rfl, rfl, _, rfl, iteT ?_⟩
      exact ⟨_, rfl, c, dx, _, rfl, O.obj, cf_no _ _ _ _ (by decide +kernel) (by decide +kernel) (by decide +kernel) (by decide +kernel), _, rfl, a, _, _, _, rfl, rfl, SqL.of ha, atI_nat (j := 1) rfl, i, H0, c, z, rfl, ⟨dx, pr, pt, as, O, Va⟩, Sb, G, kk⟩
    | shows =>
      refine ⟨_, rfl, a, _, _, _, rfl, rfl, SqL.of ha, atI_nat (j := 0) rfl, rfl, _, rfl, iteF ?_⟩
      refine ⟨_, rfl, a, _, _, _, rfl, rfl, SqL.of ha, atI_nat (j := 0) rfl, rfl, _, rfl, iteF ?_⟩
      refine ⟨_, rfl, a, _, _, _, rfl, rfl, SqL.of ha, atI_nat (j := 0) rfl, rfl, _, rfl, iteF ?_⟩
      refine ⟨_, rfl, a, _, _, _, rfl, rfl, SqL.of ha, atI_nat (j := 0) rfl, rfl, _, rfl, iteT ?_⟩
      exact ⟨_, rfl, c, dx, _, rfl, O.obj, cf_no _ _ _ _ (by decide +kernel) (by decide +kernel) (by decide +kernel) (by decide +kernel), H0, c, z, rfl, ⟨dx, pr, pt, as, O, Va⟩, Sb, G, kk⟩
    | to l =>
      refine ⟨_, rfl, a, _, _, _, rfl, rfl, SqL.of ha, atI_nat (j := 0) rfl, rfl, _, rfl, iteF ?_⟩
      refine ⟨_, rfl, a, _, _, _, rfl, rfl, SqL.of ha, atI_nat (j := 0) rfl, rfl, _, rfl, iteF ?_⟩
      refine ⟨_, rfl, a, _, _, _, rfl, rfl, SqL.of ha, atI_nat (j := 0) rfl, rfl, _, rfl, iteF ?_⟩
      refine ⟨_, rfl, a, _, _, _, rfl, rfl, SqL.of ha, atI_nat (j := 0) rfl, rfl, _, rfl, iteF ?_⟩
      refine ⟨_, rfl, a, _, _, _, rfl, rfl, SqL.of ha, atI_nat (j := 0) rfl, rfl, _, rfl, iteT ?_⟩
      have ecut : cutV (iV (Cm.flat (.to l))) (some ((2 : Nat) : Int)) none = nV l := by
        have e : iV (Cm.flat (.to l)) = [V.int 4, V.int (l.length : Int)] ++ nV l := by
          rw [← iV_ints]
          simp [iV, Cm.flat]
        rw [e]
        exact cut_from _ _ rfl
      refine ⟨_, rfl, c, dx, _, rfl, O.obj, cf_no _ _ _ _ (by decide +kernel) (by decide +kernel) (by decide +kernel) (by decide +kernel), _, rfl, _, rfl, a, _, rfl, SqL.of ha, fun p hp => ?_⟩
      have S1 : Same H (upd H p (.lst (cutV (iV (Cm.flat (.to l))) (some ((2 : Nat) : Int)) none))) := same_new (Same.refl H) hp
      exact ⟨p, l, by rw [← ecut]; exact upd_same, hB.1, H0, c, z, rfl, ⟨dx, pr, pt, as, O.kept S1, Va⟩, fun b hb => Sb b (S1.free hb), G, call_up S1 kk⟩
    | plans l =>
      refine ⟨_, rfl, a, _, _, _, rfl, rfl, SqL.of ha, atI_nat (j := 0) rfl, rfl, _, rfl, iteF ?_⟩
      refine ⟨_, rfl, a, _, _, _, rfl, rfl, SqL.of ha, atI_nat (j := 0) rfl, rfl, _, rfl, iteF ?_⟩
      refine ⟨_, rfl, a, _, _, _, rfl, rfl, SqL.of ha, atI_nat (j := 0) rfl, rfl, _, rfl, iteF ?_⟩
      refine ⟨_, rfl, a, _, _, _, rfl, rfl, SqL.of ha, atI_nat (j := 0) rfl, rfl, _, rfl, iteF ?_⟩
      refine ⟨_, rfl, a, _, _, _, rfl, rfl, SqL.of ha, atI_nat (j := 0) rfl, rfl, _, rfl, iteF ?_⟩
      refine ⟨_, rfl, a, _, _, _, rfl, rfl, SqL.of ha, atI_nat (j := 0) rfl, rfl, _, rfl, iteT ?_⟩
      have ecut : cutV (iV (Cm.flat (.plans l))) (some ((2 : Nat) : Int)) none = nV l := by
        have e : iV (Cm.flat (.plans l)) = [V.int 5, V.int (l.length : Int)] ++ nV l := by
          rw [← iV_ints]
          simp [iV, Cm.flat]
        rw [e]
        exact cut_from _ _ rfl
      refine ⟨_, rfl, c, dx, _, rfl, O.obj, cf_no _ _ _ _ (by decide +kernel) (by decide +kernel) (by decide +kernel) (by decide +kernel), _, rfl, _, rfl, a, _, rfl, SqL.of ha, fun p hp => ?_⟩
      have S1 : Same H (upd H p (.lst (cutV (iV (Cm.flat (.plans l))) (some ((2 : Nat) : Int)) none))) := same_new (Same.refl H) hp
      exact ⟨p, l, by rw [← ecut]; exact upd_same, hB.1, H0, c, z, rfl, ⟨dx, pr, pt, as, O.kept S1, Va⟩, fun b hb => Sb b (S1.free hb), G, call_up S1 kk⟩
    | rows =>
      refine ⟨_, rfl, a, _, _, _, rfl, rfl, SqL.of ha, atI_nat (j := 0) rfl, rfl, _, rfl, iteF ?_⟩
      refine ⟨_, rfl, a, _, _, _, rfl, rfl, SqL.of ha, atI_nat (j := 0) rfl, rfl, _, rfl, iteF ?_⟩
      refine ⟨_, rfl, a, _, _, _, rfl, rfl, SqL.of ha, atI_nat (j := 0) rfl, rfl, _, rfl, iteF ?_⟩
      refine ⟨_, rfl, a, _, _, _, rfl, rfl, SqL.of ha, atI_nat (j := 0) rfl, rfl, _, rfl, iteF ?_⟩
      refine ⟨_, rfl, a, _, _, _, rfl, rfl, SqL.of ha, atI_nat (j := 0) rfl, rfl, _, rfl, iteF ?_⟩
      refine ⟨_, rfl, a, _, _, _, rfl, rfl, SqL.of ha, atI_nat (j := 0) rfl, rfl, _, rfl, iteF ?_⟩
      refine ⟨_, rfl, a, _, _, _, rfl, rfl, SqL.of ha, atI_nat (j := 0) rfl, rfl, _, rfl, iteT ?_⟩
      exact ⟨_, rfl, c, dx, _, rfl, O.obj, cf_no _ _ _ _ (by decide +kernel) (by decide +kernel) (by decide +kernel) (by decide +kernel), H0, c, z, rfl, ⟨dx, pr, pt, as, O, Va⟩, Sb, G, kk⟩
    | farthest =>
      refine ⟨_, rfl, a, _, _, _, rfl, rfl, SqL.of ha, atI_nat (j := 0) rfl, rfl, _, rfl, iteF ?_⟩
      refine ⟨_, rfl, a, _, _, _, rfl, rfl, SqL.of ha, atI_nat (j := 0) rfl, rfl, _, rfl, iteF ?_⟩
      refine ⟨_, rfl, a, _, _, _, rfl, rfl, SqL.of ha, atI_nat (j := 0) rfl, rfl, _, rfl, iteF ?_⟩
      refine ⟨_, rfl, a, _, _, _, rfl, rfl, SqL.of ha, atI_nat (j := 0) rfl, rfl, _, rfl, iteF ?_⟩
      refine ⟨_, rfl, a, _, _, _, rfl, rfl, SqL.of ha, atI_nat (j := 0) rfl, rfl, _, rfl, iteF ?_⟩
      refine ⟨_, rfl, a, _, _, _, rfl, rfl, SqL.of ha, atI_nat (j := 0) rfl, rfl, _, rfl, iteF ?_⟩
      refine ⟨_, rfl, a, _, _, _, rfl, rfl, SqL.of ha, atI_nat (j := 0) rfl, rfl, _, rfl, iteF ?_⟩
      exact ⟨_, rfl, c, dx, _, rfl, O.obj, cf_no _ _ _ _ (by decide +kernel) (by decide +kernel) (by decide +kernel) (by decide +kernel), H0, c, z, rfl, ⟨dx, pr, pt, as, O, Va⟩, Sb, G, kk⟩
end
end Cn
set_option Elab.async false
set_option maxRecDepth 100000
set_option maxHeartbeats 4000000
namespace Cn
open PySem PySem.Spec PyProof.Rows L2
theorem good_init : Good Uw80.init := ⟨by decide, by decide, by decide, by decide, by decide⟩
theorem good_step {z : Uw80.Coins} (G : Good z) (x : Uw80.Call) : Good (Uw80.step z x).1 := by
  cases x with
  | coins m k l =>
    by_cases h : Lies m k l
    · rw [step_lies h]
      exact ⟨h.1, h.2.2.2.2.1, h.2.2.2.2.2, h.2.2.1, bits_iff.mp h.2.2.2.1⟩
    · rw [step_lies_not h]
      exact G
  | turn i =>
    show Good (match (Uw80.turns z.mode z.k z.row.length)[i]? with | none => (z, [-2]) | some p => ({ z with row := Uw80.turned z.row p }, (Uw80.ones (Uw80.turned z.row p) : Int) :: Uw80.ints (Uw80.turned z.row p))).1
    cases (Uw80.turns z.mode z.k z.row.length)[i]? with
    | none => exact G
    | some p => exact ⟨G.mode, G.k1, by show z.k ≤ (Uw80.turned z.row p).length; rw [Cm.turned_len]; exact G.kn, by show (Uw80.turned z.row p).length ≤ 10; rw [Cm.turned_len]; exact G.n10, (Cm.turned_ok (p := p) G.ok).bit⟩
  | places i => exact G
  | shows => exact G
  | to l => exact G
  | plans l => exact G
  | rows => exact G
  | farthest => exact G
theorem good_after : ∀ (cs : List Uw80.Call) {z : Uw80.Coins}, Good z → Good (Cm.after z cs)
  | [], _, G => G
  | x :: r, _, G => good_after r (good_step G x)
/-- the heap that has but t -/
def only (t : Addr) : Hp := fun b => if b = t then some (.lst []) else none
theorem only_ne {t b : Addr} (h : b ≠ t) : only t b = none := if_neg h
theorem only_of {t b : Addr} (h : only t b = none) : b ≠ t := fun e => by
  unfold only at h
  rw [if_pos e] at h
  cases h
theorem CoinsAt.apart {C : Addr} {H : Hp} {c dx pr pt t : Addr} {z : Uw80.Coins} {as : List Addr} {xs ys : List V} (O : CoinsAt C H c z dx pr pt as) (Va : Av (only t) pr pt as) (ht : H t = some (.lst xs)) : CoinsAt C (upd H t (.lst ys)) c z dx pr pt as := by
  refine ⟨?_, ?_, ?_, ?_⟩
  · rw [upd_ne (ne_of O.obj ht (by intro e; cases e))]
    exact O.obj
  · rw [upd_ne (only_of Va.1)]
    exact O.row
  · rw [upd_ne (only_of Va.2.1)]
    exact O.lst
  · have key : ∀ {as : List Addr} {ls : List (List Nat)}, Nls Free H as ls → (∀ b ∈ as, only t b = none) → Nls Free (upd H t (.lst ys)) as ls := by
      intro as ls N
      induction N with
      | nil => intro _; exact .nil
      | cons h _ ih =>
        intro hb
        refine .cons ⟨?_, rfl⟩ (ih fun b q => hb b (List.mem_cons_of_mem _ q))
        rw [upd_ne (only_of (hb _ (List.mem_cons_self ..)))]
        exact h.1
    exact key O.turns Va.2.2
def spAns (K : PySem.W.Frag) : Sp := fun vs H Q _ => ∃ (a : Addr) (ns : List Int), vs = [.ref a] ∧ SqL K H a (ns.map V.int) ∧ ns.length ≤ 1400 ∧ PyUw80.answers_asked ns = true ∧
  ∀ (H' : Hp) (p : Addr), H' p = some (.lst ((PyUw80.answers ns).map V.int)) → Q (.ref p) H'
section
variable {P : Program} {w : World} {K : PySem.W.Frag} {mg : Str → Option Value} {base : Heap}
theorem scAnswers : FnScope ["calls", "coins", "told", "start", "end", "numbers"] ["calls"] (defScope sAnswers) := ⟨rfl, rfl, rfl, by decide +kernel, rfl, by decide +kernel, by decide +kernel⟩
theorem szT {n : Nat} (h : n ≤ 10000000) : n ≤ sizeLine := by
  rw [sizeLine_eq]
  omega
theorem ok_answers {f C fI fE fA : Addr} {fd fdI fdE fdA : FuncData} (F : Fun K "answers" "answers" sAnswers f fd) (T : Txt K C) (hlen : mg "len" = none) (M : Mk K C fI) (mgC : mg "Coins" = some (.ref C))
    (GI : FnOk P w K mg base CX0 4 fI fdI ["self"] (spInit C)) (bI : Binds K fdI ["self"] [])
    (GE : FnOk P w K mg base CX0 1 fE fdE ["calls", "start"] (spEnd K)) (mgE : mg "end_of_call" = some (.ref fE)) (kpE : PySem.W.keepIn K (.ref fE) = true) (bE : Binds K fdE ["calls", "start"] [])
    (GA : FnOk P w K mg base CX0 6 fA fdA ["coins", "call"] (spAnswer C)) (mgA : mg "answer" = some (.ref fA)) (kpA : PySem.W.keepIn K (.ref fA) = true) (bA : Binds K fdA ["coins", "call"] []) :
    FnOk P w K mg base CX0 8 f fd ["calls"] (spAns K) := by
  refine F.ok scAnswers (fun vs H Q E h => ?_) (fun cdv A outer s H vs Q E hr h => ?_)
  · obtain ⟨a, ns, rfl, _⟩ := h
    rfl
  · obtain ⟨a, ns, rfl, hS, hlen14, hask, kk⟩ := h
    have hr5 : Room 5 _ := hr.mono (by decide)
    have hr1 : Room 1 _ := hr.mono (by decide)
    have hr6 : Room 6 _ := hr.mono (by decide)
    obtain ⟨cs, ecs, hB, _, _, ea, hbig⟩ := Cm.asked_calls hask
    refine ⟨_, pss_cons (ps_set (i := 1) scAnswers.nd rfl (Or.inl rfl) (pe_make0 M GI hr5 rfl mgC bI .nil pass0))
      (pss_cons (ps_set (i := 2) scAnswers.nd rfl (Or.inl rfl) (pe_lst pa_nil))
      (pss_cons (ps_set (i := 3) scAnswers.nd rfl (Or.inl rfl) pe_int)
      (pss_cons (ps_while PassesOwn.never (pt_cmpR op_lt (pv 3) (pe_callB call_len_seq (by rfl) hlen PySem.boot_len (pa_cons (pv 0) pa_nil)) (nomark _))
        (pss_cons (ps_set (i := 4) scAnswers.nd rfl (Or.inl rfl) (pe_call GE hr1 rfl mgE kpE bE .nil pass0 (pa_cons (pv 0) (pa_cons (pv 3) pa_nil))))
        (pss_cons (ps_set (i := 5) scAnswers.nd rfl (Or.inl rfl) (pe_call GA hr6 rfl mgA kpA bA .nil pass0 (pa_cons (pv 1) (pa_cons (pe_slice sl_list (pv 0) (po_some (pv 3)) (po_some (pv 4))) pa_nil))))
        (pss_cons (ps_expr (pe_bm PySem.F.plainAttrs_list PySem.F.slot_list_append PySem.F.type_list_append mt_append (pv 2) (pa_cons (pe_callB call_len_seq (by rfl) hlen PySem.boot_len (pa_cons (pv 5) pa_nil)) pa_nil)))
        (pss_cons (ps_expr (pe_bm PySem.F.plainAttrs_list PySem.F.slot_list_extend PySem.F.type_list_extend mt_extend (pv 2) (pa_cons (pv 5) pa_nil)))
        (pss_one (ps_set (i := 3) scAnswers.nd rfl (Or.inl rfl) (pv 4))))))))
      (pss_one (ps_ret (pv 2)))))), ?_⟩
    -- coins = Coins()
    intro c dc nc ndc nec
    refine ⟨c, dc, rfl, upd_same, fun H1 hC1 K1 => ⟨rfl, ?_⟩⟩
    have S1 : Same H H1 := Same.made nc ndc K1
    obtain ⟨dx, pr, pt, as, O⟩ := hC1
    -- told = []; start = 0
    refine ⟨Nat.zero_le _, fun t ht => ?_⟩
    have htH : H t = none := S1.free ht
    have Va0 : Av (only t) pr pt as := ⟨only_ne (ne_of_none O.row ht), only_ne (ne_of_none O.lst ht), fun b hb => only_ne (by
      obtain ⟨i, hi, rfl⟩ := List.mem_iff_getElem.mp hb
      obtain ⟨l, _, h1, _⟩ := nls_get O.turns (List.getElem?_eq_getElem hi)
      exact ne_of_none h1 ht)⟩
    have S2 : Same H1 (upd H1 t (.lst [])) := same_new (Same.refl H1) ht
    refine ⟨fun m σ H' => ∃ (dn rest : List Uw80.Call) (v4 v5 : Option V), cs = dn ++ rest ∧ m = rest.length ∧ σ = [some (.ref a), some (.ref c), some (.ref t), some (.int ((dn.flatMap Cm.flat).length : Nat)), v4, v5] ∧ Same H H' ∧
      IsCoinsA (only t) C H' c (Cm.after Uw80.init dn) ∧ H' t = some (.lst (iV (Cm.toldF Uw80.init dn))), ⟨cs.length, [], cs, none, none, rfl, rfl, rfl, S1.trans S2, ⟨dx, pr, pt, as, O.kept S2, Va0⟩, upd_same⟩, ?_⟩
    rintro m σ H2 ⟨dn, rest, v4, v5, ecs2, rfl, rfl, S3, hC2, ht2⟩
    have hS2 : SqL K H2 a (iV ns) := S3.seq hS
    refine ⟨_, rfl, _, rfl, a, _, rfl, .inl hS2, _, _, rfl, rfl, _, rfl, ?_⟩
    rw [iV_len]
    cases rest with
    | nil =>
      rw [List.append_nil] at ecs2
      subst ecs2
      have e0 : decide (((cs.flatMap Cm.flat).length : Int) < (ns.length : Int)) = false := decide_eq_false (by rw [ecs]; omega)
      rw [e0]
      refine iteF ⟨_, rfl, ?_⟩
      refine kk H2 t ?_
      rw [ea]
      exact ht2
    | cons x rest =>
      have ens : ns = dn.flatMap Cm.flat ++ (Cm.flat x ++ rest.flatMap Cm.flat) := by rw [ecs, ecs2, List.flatMap_append, List.flatMap_cons]
      have hxp := Cm.flat_ne x
      have e0 : decide (((dn.flatMap Cm.flat).length : Int) < (ns.length : Int)) = true := decide_eq_true (by rw [ens, List.length_append, List.length_append]; omega)
      rw [e0]
      have hS2' : SqL K H2 a (iV (dn.flatMap Cm.flat ++ (Cm.flat x ++ rest.flatMap Cm.flat))) := ens ▸ hS2
      have hbx : Cm.Bnd x := hB x (by rw [ecs2]; simp)
      refine iteT ⟨fun σ' H' => ∃ m', m' < (x :: rest).length ∧ ∃ (dn rest : List Uw80.Call) (v4 v5 : Option V), cs = dn ++ rest ∧ m' = rest.length ∧ σ' = [some (.ref a), some (.ref c), some (.ref t), some (.int ((dn.flatMap Cm.flat).length : Nat)), v4, v5] ∧ Same H H' ∧
        IsCoinsA (only t) C H' c (Cm.after Uw80.init dn) ∧ H' t = some (.lst (iV (Cm.toldF Uw80.init dn))), fun σ' H' h => h, ?_⟩
      -- end = end_of_call(calls, start)
      refine ⟨_, rfl, _, rfl, a, dn.flatMap Cm.flat, rest.flatMap Cm.flat, x, rfl, hS2', fun H3 S4 => ?_⟩
      have hS3 := S4.seq hS2'
      -- numbers = answer(coins, calls[start:end])
      refine ⟨_, rfl, _, rfl, _, rfl, _, rfl, _, rfl, _, rfl, a, _, rfl, hS3, fun p hp => ?_⟩
      have ecut : cutV (iV (dn.flatMap Cm.flat ++ (Cm.flat x ++ rest.flatMap Cm.flat))) (some (((dn.flatMap Cm.flat).length : Nat) : Int)) (some (((dn.flatMap Cm.flat).length + (Cm.flat x).length : Nat) : Int)) = iV (Cm.flat x) := by
        rw [iV_app, iV_app]
        exact cut_mid _ _ _ (iV_len _).symm (by rw [iV_len, iV_len])
      rw [ecut]
      have S5 : Same H3 (upd H3 p (.lst (iV (Cm.flat x)))) := same_new (Same.refl H3) hp
      have S25 := S4.trans S5
      obtain ⟨dx2, pr2, pt2, as2, O2, Va2⟩ := hC2
      have ht5 := S25 _ _ ht2
      refine ⟨only t, c, p, Cm.after Uw80.init dn, x, rfl, ⟨dx2, pr2, pt2, as2, O2.kept S25, Va2⟩, fun b hb => only_ne (fun e => by rw [e, ht5] at hb; cases hb), good_after dn good_init, upd_same, hbx, fun H6 b hC6 K6 hb hb6 => ?_⟩
      have ntc : t ≠ c := ne_of ht2 O2.obj (by intro e; cases e)
      have ht6 := K6 _ _ ht5 ntc
      have nbt : b ≠ t := fun e => by rw [e, ht5] at hb; cases hb
      have etold : Cm.toldF Uw80.init (dn ++ [x]) = Cm.toldF Uw80.init dn ++ (((Uw80.step (Cm.after Uw80.init dn) x).2.length : Int) :: (Uw80.step (Cm.after Uw80.init dn) x).2) := by
        rw [Cm.toldF_append]
        show _ ++ ((_ :: _) ++ []) = _
        rw [List.append_nil]
      have hbound : (Cm.toldF Uw80.init dn).length + ((Uw80.step (Cm.after Uw80.init dn) x).2.length + 1) ≤ 10000000 := by
        have e : cs = (dn ++ [x]) ++ rest := by rw [ecs2, List.append_assoc]; rfl
        rw [e, Cm.toldF_append, List.length_append, etold, List.length_append, List.length_cons] at hbig
        omega
      -- told.append(len(numbers))
      refine ⟨_, rfl, .inl ⟨rfl, _, SqL.of ht6⟩, _, rfl, b, _, rfl, .inl (SqL.of hb6), t, _, _, rfl, rfl, ht6, (by rw [iV_len]; exact Nat.lt_of_lt_of_le (Nat.lt_succ_self _) (szT (by omega))), ?_⟩
      -- told.extend(numbers)
      have hb7 : (upd H6 t (.lst (iV (Cm.toldF Uw80.init dn) ++ [V.int ((iV (Uw80.step (Cm.after Uw80.init dn) x).2).length : Int)]))) b = some (.lst (iV (Uw80.step (Cm.after Uw80.init dn) x).2)) := by rw [upd_ne nbt]; exact hb6
      refine ⟨_, rfl, .inl ⟨rfl, _, SqL.of upd_same⟩, _, rfl, t, b, _, _, rfl, rfl, upd_same, hb7, (by rw [List.length_append, iV_len, iV_len]; show _ + 1 + _ ≤ _; exact szT (by omega)), ?_⟩
      rw [upd_upd]
      -- start = end
      refine ⟨_, rfl, rest.length, Nat.lt_succ_self _, dn ++ [x], rest, some (.int (((dn.flatMap Cm.flat).length + (Cm.flat x).length : Nat) : Int)), some (.ref b), by rw [ecs2, List.append_assoc]; rfl, rfl, ?_, ?_, ?_, ?_⟩
      · have e : ((dn ++ [x]).flatMap Cm.flat).length = (dn.flatMap Cm.flat).length + (Cm.flat x).length := by
          rw [List.flatMap_append, List.length_append]
          simp
        rw [e]
        rfl
      · refine same_fresh (fun b' o e => ?_) htH
        have nbc : b' ≠ c := fun q => by rw [q, nc] at e; cases e
        exact K6 b' o (S25 _ _ (S3 _ _ e)) nbc
      · obtain ⟨dx6, pr6, pt6, as6, O6, Va6⟩ := hC6
        have ez : Cm.after Uw80.init (dn ++ [x]) = (Uw80.step (Cm.after Uw80.init dn) x).1 := by
          rw [Cm.after_append]
          rfl
        rw [ez]
        exact ⟨dx6, pr6, pt6, as6, O6.apart Va6 ht6, Va6⟩
      · rw [upd_same, etold, iV_app, List.append_assoc, iV_len]
        rfl
end
end Cn
set_option Elab.async false
set_option maxRecDepth 100000
set_option maxHeartbeats 4000000
namespace Cn
open PySem PySem.Spec PyProof.Rows L2
/-! What the top has written. -/
theorem all_mk {P : Program} {w : World} {K : PySem.W.Frag} {h : Heap} {mg : Str → Option Value} {fa C dW f0 f1 f2 f3 f4 f5 f6 f7 f8 f9 f10 f11 f12 f13 f14 f15 f16 h0 h1 h2 h3 h4 h5 h6 h7 h8 h9 h10 h11 h12 : Addr} {odf0 anf0 odf1 anf1 odf2 anf2 odf3 anf3 odf4 anf4 odf5 anf5 odf6 anf6 odf7 anf7 odf8 anf8 odf9 anf9 odf10 anf10 odf11 anf11 odf12 anf12 odf13 anf13 odf14 anf14 odf15 anf15 odf16 anf16 odh0 anh0 odh1 anh1 odh2 anh2 odh3 anh3 odh4 anh4 odh5 anh5 odh6 anh6 odh7 anh7 odh8 anh8 odh9 anh9 odh10 anh10 odh11 anh11 odh12 anh12 : Option Addr} {slf0 slf1 slf2 slf3 slf4 slf5 slf6 slf7 slf8 slf9 slf10 slf11 slf12 slf13 slf14 slf15 slf16 slh0 slh1 slh2 slh3 slh4 slh5 slh6 slh7 slh8 slh9 slh10 slh11 slh12 : Array (Option Value)} {ocf0 kVf0 dcf0 pmf0 cdf0 ctf0 ocf1 kVf1 dcf1 pmf1 cdf1 ctf1 ocf2 kVf2 dcf2 pmf2 cdf2 ctf2 ocf3 kVf3 dcf3 pmf3 cdf3 ctf3 ocf4 kVf4 dcf4 pmf4 cdf4 ctf4 ocf5 kVf5 dcf5 pmf5 cdf5 ctf5 ocf6 kVf6 dcf6 pmf6 cdf6 ctf6 ocf7 kVf7 dcf7 pmf7 cdf7 ctf7 ocf8 kVf8 dcf8 pmf8 cdf8 ctf8 ocf9 kVf9 dcf9 pmf9 cdf9 ctf9 ocf10 kVf10 dcf10 pmf10 cdf10 ctf10 ocf11 kVf11 dcf11 pmf11 cdf11 ctf11 ocf12 kVf12 dcf12 pmf12 cdf12 ctf12 ocf13 kVf13 dcf13 pmf13 cdf13 ctf13 ocf14 kVf14 dcf14 pmf14 cdf14 ctf14 ocf15 kVf15 dcf15 pmf15 cdf15 ctf15 ocf16 kVf16 dcf16 pmf16 cdf16 ctf16 och0 kVh0 dch0 pmh0 cdh0 cth0 och1 kVh1 dch1 pmh1 cdh1 cth1 och2 kVh2 dch2 pmh2 cdh2 cth2 och3 kVh3 dch3 pmh3 cdh3 cth3 och4 kVh4 dch4 pmh4 cdh4 cth4 och5 kVh5 dch5 pmh5 cdh5 cth5 och6 kVh6 dch6 pmh6 cdh6 cth6 och7 kVh7 dch7 pmh7 cdh7 cth7 och8 kVh8 dch8 pmh8 cdh8 cth8 och9 kVh9 dch9 pmh9 cdh9 cth9 och10 kVh10 dch10 pmh10 cdh10 cth10 och11 kVh11 dch11 pmh11 cdh11 cth11 och12 kVh12 dch12 pmh12 cdh12 cth12 : Value} {tk0 tk1 tk2 tk3 tk4 tk5 tk6 tk7 tk8 tk9 tk10 tk11 tk12 tk13 ta0 tb0 ta1 tb1 ta2 tb2 ta3 tb3 ta4 tb4 ta5 tb5 ta6 tb6 ta7 tb7 : Tok} {ep : Nat}
    (X : K.In h) (G : h.Ns mainGlobals mg) (hfa : mg "answers" = some (.ref fa))
    (af0 : PySem.W.nsIn K mainGlobals "with_one_more" = some (some (.ref f0)))
    (lf0 : K.lookup f0 = some ⟨ocf0, odf0, .func (PySem.W.fnOf "with_one_more" "with_one_more" (defArgs sWom) (defBody sWom) (defScope sWom) .none kVf0 dcf0 pmf0 anf0 cdf0 ctf0), slf0⟩)
    (cf0 : PySem.W.codeIn K cdf0 "with_one_more" = true)
    (kf0 : PySem.W.keepIn K (.ref f0) = true)
    (af1 : PySem.W.nsIn K mainGlobals "sets_of_places" = some (some (.ref f1)))
    (lf1 : K.lookup f1 = some ⟨ocf1, odf1, .func (PySem.W.fnOf "sets_of_places" "sets_of_places" (defArgs sSets) (defBody sSets) (defScope sSets) .none kVf1 dcf1 pmf1 anf1 cdf1 ctf1), slf1⟩)
    (cf1 : PySem.W.codeIn K cdf1 "sets_of_places" = true)
    (kf1 : PySem.W.keepIn K (.ref f1) = true)
    (af2 : PySem.W.nsIn K mainGlobals "places_from" = some (some (.ref f2)))
    (lf2 : K.lookup f2 = some ⟨ocf2, odf2, .func (PySem.W.fnOf "places_from" "places_from" (defArgs sFrom) (defBody sFrom) (defScope sFrom) .none kVf2 dcf2 pmf2 anf2 cdf2 ctf2), slf2⟩)
    (cf2 : PySem.W.codeIn K cdf2 "places_from" = true)
    (kf2 : PySem.W.keepIn K (.ref f2) = true)
    (af3 : PySem.W.nsIn K mainGlobals "turns_by" = some (some (.ref f3)))
    (lf3 : K.lookup f3 = some ⟨ocf3, odf3, .func (PySem.W.fnOf "turns_by" "turns_by" (defArgs sTurns) (defBody sTurns) (defScope sTurns) .none kVf3 dcf3 pmf3 anf3 cdf3 ctf3), slf3⟩)
    (cf3 : PySem.W.codeIn K cdf3 "turns_by" = true)
    (kf3 : PySem.W.keepIn K (.ref f3) = true)
    (af4 : PySem.W.nsIn K mainGlobals "as_number" = some (some (.ref f4)))
    (lf4 : K.lookup f4 = some ⟨ocf4, odf4, .func (PySem.W.fnOf "as_number" "as_number" (defArgs sNum) (defBody sNum) (defScope sNum) .none kVf4 dcf4 pmf4 anf4 cdf4 ctf4), slf4⟩)
    (cf4 : PySem.W.codeIn K cdf4 "as_number" = true)
    (kf4 : PySem.W.keepIn K (.ref f4) = true)
    (af5 : PySem.W.nsIn K mainGlobals "as_row" = some (some (.ref f5)))
    (lf5 : K.lookup f5 = some ⟨ocf5, odf5, .func (PySem.W.fnOf "as_row" "as_row" (defArgs sRowOf) (defBody sRowOf) (defScope sRowOf) .none kVf5 dcf5 pmf5 anf5 cdf5 ctf5), slf5⟩)
    (cf5 : PySem.W.codeIn K cdf5 "as_row" = true)
    (kf5 : PySem.W.keepIn K (.ref f5) = true)
    (af6 : PySem.W.nsIn K mainGlobals "change_at" = some (some (.ref f6)))
    (lf6 : K.lookup f6 = some ⟨ocf6, odf6, .func (PySem.W.fnOf "change_at" "change_at" (defArgs sChg) (defBody sChg) (defScope sChg) .none kVf6 dcf6 pmf6 anf6 cdf6 ctf6), slf6⟩)
    (cf6 : PySem.W.codeIn K cdf6 "change_at" = true)
    (kf6 : PySem.W.keepIn K (.ref f6) = true)
    (af7 : PySem.W.nsIn K mainGlobals "turns_needed" = some (some (.ref f7)))
    (lf7 : K.lookup f7 = some ⟨ocf7, odf7, .func (PySem.W.fnOf "turns_needed" "turns_needed" (defArgs sNeed) (defBody sNeed) (defScope sNeed) .none kVf7 dcf7 pmf7 anf7 cdf7 ctf7), slf7⟩)
    (cf7 : PySem.W.codeIn K cdf7 "turns_needed" = true)
    (kf7 : PySem.W.keepIn K (.ref f7) = true)
    (af8 : PySem.W.nsIn K mainGlobals "nearer_turns" = some (some (.ref f8)))
    (lf8 : K.lookup f8 = some ⟨ocf8, odf8, .func (PySem.W.fnOf "nearer_turns" "nearer_turns" (defArgs sNear) (defBody sNear) (defScope sNear) .none kVf8 dcf8 pmf8 anf8 cdf8 ctf8), slf8⟩)
    (cf8 : PySem.W.codeIn K cdf8 "nearer_turns" = true)
    (kf8 : PySem.W.keepIn K (.ref f8) = true)
    (af9 : PySem.W.nsIn K mainGlobals "first_plan" = some (some (.ref f9)))
    (lf9 : K.lookup f9 = some ⟨ocf9, odf9, .func (PySem.W.fnOf "first_plan" "first_plan" (defArgs sPlan) (defBody sPlan) (defScope sPlan) .none kVf9 dcf9 pmf9 anf9 cdf9 ctf9), slf9⟩)
    (cf9 : PySem.W.codeIn K cdf9 "first_plan" = true)
    (kf9 : PySem.W.keepIn K (.ref f9) = true)
    (af10 : PySem.W.nsIn K mainGlobals "turns_and_plans" = some (some (.ref f10)))
    (lf10 : K.lookup f10 = some ⟨ocf10, odf10, .func (PySem.W.fnOf "turns_and_plans" "turns_and_plans" (defArgs sTaP) (defBody sTaP) (defScope sTaP) .none kVf10 dcf10 pmf10 anf10 cdf10 ctf10), slf10⟩)
    (cf10 : PySem.W.codeIn K cdf10 "turns_and_plans" = true)
    (kf10 : PySem.W.keepIn K (.ref f10) = true)
    (af11 : PySem.W.nsIn K mainGlobals "all_coins" = some (some (.ref f11)))
    (lf11 : K.lookup f11 = some ⟨ocf11, odf11, .func (PySem.W.fnOf "all_coins" "all_coins" (defArgs sAll) (defBody sAll) (defScope sAll) .none kVf11 dcf11 pmf11 anf11 cdf11 ctf11), slf11⟩)
    (cf11 : PySem.W.codeIn K cdf11 "all_coins" = true)
    (kf11 : PySem.W.keepIn K (.ref f11) = true)
    (af12 : PySem.W.nsIn K mainGlobals "can_lie" = some (some (.ref f12)))
    (lf12 : K.lookup f12 = some ⟨ocf12, odf12, .func (PySem.W.fnOf "can_lie" "can_lie" (defArgs sCan) (defBody sCan) (defScope sCan) .none kVf12 dcf12 pmf12 anf12 cdf12 ctf12), slf12⟩)
    (cf12 : PySem.W.codeIn K cdf12 "can_lie" = true)
    (kf12 : PySem.W.keepIn K (.ref f12) = true)
    (af13 : PySem.W.nsIn K mainGlobals "turned" = some (some (.ref f13)))
    (lf13 : K.lookup f13 = some ⟨ocf13, odf13, .func (PySem.W.fnOf "turned" "turned" (defArgs sTurned) (defBody sTurned) (defScope sTurned) .none kVf13 dcf13 pmf13 anf13 cdf13 ctf13), slf13⟩)
    (cf13 : PySem.W.codeIn K cdf13 "turned" = true)
    (kf13 : PySem.W.keepIn K (.ref f13) = true)
    (af14 : PySem.W.nsIn K mainGlobals "end_of_call" = some (some (.ref f14)))
    (lf14 : K.lookup f14 = some ⟨ocf14, odf14, .func (PySem.W.fnOf "end_of_call" "end_of_call" (defArgs sEnd) (defBody sEnd) (defScope sEnd) .none kVf14 dcf14 pmf14 anf14 cdf14 ctf14), slf14⟩)
    (cf14 : PySem.W.codeIn K cdf14 "end_of_call" = true)
    (kf14 : PySem.W.keepIn K (.ref f14) = true)
    (af15 : PySem.W.nsIn K mainGlobals "answer" = some (some (.ref f15)))
    (lf15 : K.lookup f15 = some ⟨ocf15, odf15, .func (PySem.W.fnOf "answer" "answer" (defArgs sAnswer) (defBody sAnswer) (defScope sAnswer) .none kVf15 dcf15 pmf15 anf15 cdf15 ctf15), slf15⟩)
    (cf15 : PySem.W.codeIn K cdf15 "answer" = true)
    (kf15 : PySem.W.keepIn K (.ref f15) = true)
    (af16 : PySem.W.nsIn K mainGlobals "answers" = some (some (.ref f16)))
    (lf16 : K.lookup f16 = some ⟨ocf16, odf16, .func (PySem.W.fnOf "answers" "answers" (defArgs sAnswers) (defBody sAnswers) (defScope sAnswers) .none kVf16 dcf16 pmf16 anf16 cdf16 ctf16), slf16⟩)
    (cf16 : PySem.W.codeIn K cdf16 "answers" = true)
    (kf16 : PySem.W.keepIn K (.ref f16) = true)
    (aC : PySem.W.nsIn K mainGlobals "Coins" = some (some (.ref C)))
    (ah0 : PySem.W.findIn K (.ref C) "__init__" = some (some (.ref h0)))
    (ih0 : PySem.W.isFn K (.ref h0) = true)
    (lh0 : K.lookup h0 = some ⟨och0, odh0, .func (PySem.W.fnOf "__init__" "Coins.__init__" (defArgs sInit) (defBody sInit) (defScope sInit) .none kVh0 dch0 pmh0 anh0 cdh0 cth0), slh0⟩)
    (ch0 : PySem.W.codeIn K cdh0 "Coins.__init__" = true)
    (kh0 : PySem.W.keepIn K (.ref h0) = true)
    (ah1 : PySem.W.findIn K (.ref C) "lay" = some (some (.ref h1)))
    (ih1 : PySem.W.isFn K (.ref h1) = true)
    (lh1 : K.lookup h1 = some ⟨och1, odh1, .func (PySem.W.fnOf "lay" "Coins.lay" (defArgs sLay) (defBody sLay) (defScope sLay) .none kVh1 dch1 pmh1 anh1 cdh1 cth1), slh1⟩)
    (ch1 : PySem.W.codeIn K cdh1 "Coins.lay" = true)
    (kh1 : PySem.W.keepIn K (.ref h1) = true)
    (ah2 : PySem.W.findIn K (.ref C) "has_turn" = some (some (.ref h2)))
    (ih2 : PySem.W.isFn K (.ref h2) = true)
    (lh2 : K.lookup h2 = some ⟨och2, odh2, .func (PySem.W.fnOf "has_turn" "Coins.has_turn" (defArgs sHas) (defBody sHas) (defScope sHas) .none kVh2 dch2 pmh2 anh2 cdh2 cth2), slh2⟩)
    (ch2 : PySem.W.codeIn K cdh2 "Coins.has_turn" = true)
    (kh2 : PySem.W.keepIn K (.ref h2) = true)
    (ah3 : PySem.W.findIn K (.ref C) "turn" = some (some (.ref h3)))
    (ih3 : PySem.W.isFn K (.ref h3) = true)
    (lh3 : K.lookup h3 = some ⟨och3, odh3, .func (PySem.W.fnOf "turn" "Coins.turn" (defArgs sTurn) (defBody sTurn) (defScope sTurn) .none kVh3 dch3 pmh3 anh3 cdh3 cth3), slh3⟩)
    (ch3 : PySem.W.codeIn K cdh3 "Coins.turn" = true)
    (kh3 : PySem.W.keepIn K (.ref h3) = true)
    (ah4 : PySem.W.findIn K (.ref C) "places" = some (some (.ref h4)))
    (ih4 : PySem.W.isFn K (.ref h4) = true)
    (lh4 : K.lookup h4 = some ⟨och4, odh4, .func (PySem.W.fnOf "places" "Coins.places" (defArgs sPlaces) (defBody sPlaces) (defScope sPlaces) .none kVh4 dch4 pmh4 anh4 cdh4 cth4), slh4⟩)
    (ch4 : PySem.W.codeIn K cdh4 "Coins.places" = true)
    (kh4 : PySem.W.keepIn K (.ref h4) = true)
    (ah5 : PySem.W.findIn K (.ref C) "shows" = some (some (.ref h5)))
    (ih5 : PySem.W.isFn K (.ref h5) = true)
    (lh5 : K.lookup h5 = some ⟨och5, odh5, .func (PySem.W.fnOf "shows" "Coins.shows" (defArgs sShows) (defBody sShows) (defScope sShows) .none kVh5 dch5 pmh5 anh5 cdh5 cth5), slh5⟩)
    (ch5 : PySem.W.codeIn K cdh5 "Coins.shows" = true)
    (kh5 : PySem.W.keepIn K (.ref h5) = true)
    (ah6 : PySem.W.findIn K (.ref C) "changes" = some (some (.ref h6)))
    (ih6 : PySem.W.isFn K (.ref h6) = true)
    (lh6 : K.lookup h6 = some ⟨och6, odh6, .func (PySem.W.fnOf "changes" "Coins.changes" (defArgs sChs) (defBody sChs) (defScope sChs) .none kVh6 dch6 pmh6 anh6 cdh6 cth6), slh6⟩)
    (ch6 : PySem.W.codeIn K cdh6 "Coins.changes" = true)
    (kh6 : PySem.W.keepIn K (.ref h6) = true)
    (ah7 : PySem.W.findIn K (.ref C) "change_to" = some (some (.ref h7)))
    (ih7 : PySem.W.isFn K (.ref h7) = true)
    (lh7 : K.lookup h7 = some ⟨och7, odh7, .func (PySem.W.fnOf "change_to" "Coins.change_to" (defArgs sChTo) (defBody sChTo) (defScope sChTo) .none kVh7 dch7 pmh7 anh7 cdh7 cth7), slh7⟩)
    (ch7 : PySem.W.codeIn K cdh7 "Coins.change_to" = true)
    (kh7 : PySem.W.keepIn K (.ref h7) = true)
    (ah8 : PySem.W.findIn K (.ref C) "refusal" = some (some (.ref h8)))
    (ih8 : PySem.W.isFn K (.ref h8) = true)
    (lh8 : K.lookup h8 = some ⟨och8, odh8, .func (PySem.W.fnOf "refusal" "Coins.refusal" (defArgs sRfs) (defBody sRfs) (defScope sRfs) .none kVh8 dch8 pmh8 anh8 cdh8 cth8), slh8⟩)
    (ch8 : PySem.W.codeIn K cdh8 "Coins.refusal" = true)
    (kh8 : PySem.W.keepIn K (.ref h8) = true)
    (ah9 : PySem.W.findIn K (.ref C) "to" = some (some (.ref h9)))
    (ih9 : PySem.W.isFn K (.ref h9) = true)
    (lh9 : K.lookup h9 = some ⟨och9, odh9, .func (PySem.W.fnOf "to" "Coins.to" (defArgs sToM) (defBody sToM) (defScope sToM) .none kVh9 dch9 pmh9 anh9 cdh9 cth9), slh9⟩)
    (ch9 : PySem.W.codeIn K cdh9 "Coins.to" = true)
    (kh9 : PySem.W.keepIn K (.ref h9) = true)
    (ah10 : PySem.W.findIn K (.ref C) "plans" = some (some (.ref h10)))
    (ih10 : PySem.W.isFn K (.ref h10) = true)
    (lh10 : K.lookup h10 = some ⟨och10, odh10, .func (PySem.W.fnOf "plans" "Coins.plans" (defArgs sPlansM) (defBody sPlansM) (defScope sPlansM) .none kVh10 dch10 pmh10 anh10 cdh10 cth10), slh10⟩)
    (ch10 : PySem.W.codeIn K cdh10 "Coins.plans" = true)
    (kh10 : PySem.W.keepIn K (.ref h10) = true)
    (ah11 : PySem.W.findIn K (.ref C) "rows" = some (some (.ref h11)))
    (ih11 : PySem.W.isFn K (.ref h11) = true)
    (lh11 : K.lookup h11 = some ⟨och11, odh11, .func (PySem.W.fnOf "rows" "Coins.rows" (defArgs sRowsM) (defBody sRowsM) (defScope sRowsM) .none kVh11 dch11 pmh11 anh11 cdh11 cth11), slh11⟩)
    (ch11 : PySem.W.codeIn K cdh11 "Coins.rows" = true)
    (kh11 : PySem.W.keepIn K (.ref h11) = true)
    (ah12 : PySem.W.findIn K (.ref C) "farthest" = some (some (.ref h12)))
    (ih12 : PySem.W.isFn K (.ref h12) = true)
    (lh12 : K.lookup h12 = some ⟨och12, odh12, .func (PySem.W.fnOf "farthest" "Coins.farthest" (defArgs sFarM) (defBody sFarM) (defScope sFarM) .none kVh12 dch12 pmh12 anh12 cdh12 cth12), slh12⟩)
    (ch12 : PySem.W.codeIn K cdh12 "Coins.farthest" = true)
    (kh12 : PySem.W.keepIn K (.ref h12) = true)
    (gANY_PLACES : PySem.W.nsIn K mainGlobals "ANY_PLACES" = some (some (.int 0 tk0)))
    (gSIDE_BY_SIDE : PySem.W.nsIn K mainGlobals "SIDE_BY_SIDE" = some (some (.int 1 tk1)))
    (gIN_A_RING : PySem.W.nsIn K mainGlobals "IN_A_RING" = some (some (.int 2 tk2)))
    (gCOINS : PySem.W.nsIn K mainGlobals "COINS" = some (some (.int 0 tk3)))
    (gTURN : PySem.W.nsIn K mainGlobals "TURN" = some (some (.int 1 tk4)))
    (gPLACES : PySem.W.nsIn K mainGlobals "PLACES" = some (some (.int 2 tk5)))
    (gSHOWS : PySem.W.nsIn K mainGlobals "SHOWS" = some (some (.int 3 tk6)))
    (gTO : PySem.W.nsIn K mainGlobals "TO" = some (some (.int 4 tk7)))
    (gPLANS : PySem.W.nsIn K mainGlobals "PLANS" = some (some (.int 5 tk8)))
    (gROWS : PySem.W.nsIn K mainGlobals "ROWS" = some (some (.int 6 tk9)))
    (gMOST_COINS : PySem.W.nsIn K mainGlobals "MOST_COINS" = some (some (.int 10 tk10)))
    (gNOT_COINS : PySem.W.nsIn K mainGlobals "NOT_COINS" = some (some (.int (-1) tk11)))
    (gNO_SUCH_TURN : PySem.W.nsIn K mainGlobals "NO_SUCH_TURN" = some (some (.int (-2) tk12)))
    (gOUT_OF_REACH : PySem.W.nsIn K mainGlobals "OUT_OF_REACH" = some (some (.int (-6) tk13)))
    (zrange : PySem.W.nsIn K mainGlobals "range" = some none)
    (zsorted : PySem.W.nsIn K mainGlobals "sorted" = some none)
    (zall : PySem.W.nsIn K mainGlobals "all" = some none)
    (zlen : PySem.W.nsIn K mainGlobals "len" = some none)
    (zlist : PySem.W.nsIn K mainGlobals "list" = some none)
    (zsum : PySem.W.nsIn K mainGlobals "sum" = some none)
    (zmax : PySem.W.nsIn K mainGlobals "max" = some none)
    (zmin : PySem.W.nsIn K mainGlobals "min" = some none)
    (aW : PySem.W.nsIn K mainGlobals "WHOLE_NUMBERS" = some (some (.ref dW)))
    (lW : K.lookup dW = some ⟨.type "dict", none, .dict #[⟨hashInt 0, .int 0 ta0, .int 2 tb0⟩, ⟨hashInt 1, .int 1 ta1, .int 1 tb1⟩, ⟨hashInt 2, .int 2 ta2, .int 1 tb2⟩, ⟨hashInt 3, .int 3 ta3, .int 0 tb3⟩, ⟨hashInt 4, .int 4 ta4, .int 0 tb4⟩, ⟨hashInt 5, .int 5 ta5, .int 0 tb5⟩, ⟨hashInt 6, .int 6 ta6, .int 0 tb6⟩, ⟨hashInt 7, .int 7 ta7, .int 0 tb7⟩] ep, #[]⟩)
    (sW : (dW == sysModules) = false)
    (pg : PySem.W.plainGet K C Str.empty = true)
    (hd : PySem.W.hasDictIn K C = true)
    (po : PySem.W.plainOver K C = true)
    (sa : PySem.W.findIn K (.ref C) "__setattr__" = some (some (.builtin "object.__setattr__")))
    (mk : PySem.W.makesIn K C = true)
    (kc : PySem.W.keepIn K (.ref C) = true)
    (nM : PySem.W.findIn K (.ref C) "mode" = some none)
    (nK : PySem.W.findIn K (.ref C) "k" = some none)
    (nR : PySem.W.findIn K (.ref C) "row" = some none)
    (nT : PySem.W.findIn K (.ref C) "turns" = some none) :
    ∃ fd : FuncData, (∀ (s : Shared) (us : List Value), us.length = (["calls"] : List Str).length → BindsTo s fd ⟨us, []⟩ ((["calls"] : List Str).zip us)) ∧ ∀ base : Heap, K.In base → base.Ns mainGlobals mg → FnOk P w K mg base CX0 8 fa fd ["calls"] (spAns K) := by
  have e := hfa.symm.trans (PySem.W.mg_of X G af16)
  cases e
  have T : Txt K C := ⟨⟨pg, hd, po, sa⟩, nM, nK, nR, nT⟩
  have Ff0 := fun_mk (st := sWom) lf0 cf0 kf0
  have bf0 := Ff0.binds (ps := ["places", "coins"]) fun _ _ _ _ _ _ us hl => match us, hl with | [_, _], _ => rfl
  have gf0 := PySem.W.mg_of X G af0
  have Ff1 := fun_mk (st := sSets) lf1 cf1 kf1
  have bf1 := Ff1.binds (ps := ["k", "coins"]) fun _ _ _ _ _ _ us hl => match us, hl with | [_, _], _ => rfl
  have gf1 := PySem.W.mg_of X G af1
  have Ff2 := fun_mk (st := sFrom) lf2 cf2 kf2
  have bf2 := Ff2.binds (ps := ["first", "k", "coins"]) fun _ _ _ _ _ _ us hl => match us, hl with | [_, _, _], _ => rfl
  have gf2 := PySem.W.mg_of X G af2
  have Ff3 := fun_mk (st := sTurns) lf3 cf3 kf3
  have bf3 := Ff3.binds (ps := ["mode", "k", "coins"]) fun _ _ _ _ _ _ us hl => match us, hl with | [_, _, _], _ => rfl
  have gf3 := PySem.W.mg_of X G af3
  have Ff4 := fun_mk (st := sNum) lf4 cf4 kf4
  have bf4 := Ff4.binds (ps := ["row"]) fun _ _ _ _ _ _ us hl => match us, hl with | [_], _ => rfl
  have gf4 := PySem.W.mg_of X G af4
  have Ff5 := fun_mk (st := sRowOf) lf5 cf5 kf5
  have bf5 := Ff5.binds (ps := ["number", "coins"]) fun _ _ _ _ _ _ us hl => match us, hl with | [_, _], _ => rfl
  have gf5 := PySem.W.mg_of X G af5
  have Ff6 := fun_mk (st := sChg) lf6 cf6 kf6
  have bf6 := Ff6.binds (ps := ["places", "coins"]) fun _ _ _ _ _ _ us hl => match us, hl with | [_, _], _ => rfl
  have gf6 := PySem.W.mg_of X G af6
  have Ff7 := fun_mk (st := sNeed) lf7 cf7 kf7
  have bf7 := Ff7.binds (ps := ["changes"]) fun _ _ _ _ _ _ us hl => match us, hl with | [_], _ => rfl
  have gf7 := PySem.W.mg_of X G af7
  have Ff8 := fun_mk (st := sNear) lf8 cf8 kf8
  have bf8 := Ff8.binds (ps := ["left", "changes", "needed"]) fun _ _ _ _ _ _ us hl => match us, hl with | [_, _, _], _ => rfl
  have gf8 := PySem.W.mg_of X G af8
  have Ff9 := fun_mk (st := sPlan) lf9 cf9 kf9
  have bf9 := Ff9.binds (ps := ["wanted", "changes"]) fun _ _ _ _ _ _ us hl => match us, hl with | [_, _], _ => rfl
  have gf9 := PySem.W.mg_of X G af9
  have Ff10 := fun_mk (st := sTaP) lf10 cf10 kf10
  have bf10 := Ff10.binds (ps := ["wanted", "changes"]) fun _ _ _ _ _ _ us hl => match us, hl with | [_, _], _ => rfl
  have gf10 := PySem.W.mg_of X G af10
  have Ff11 := fun_mk (st := sAll) lf11 cf11 kf11
  have bf11 := Ff11.binds (ps := ["row"]) fun _ _ _ _ _ _ us hl => match us, hl with | [_], _ => rfl
  have gf11 := PySem.W.mg_of X G af11
  have Ff12 := fun_mk (st := sCan) lf12 cf12 kf12
  have bf12 := Ff12.binds (ps := ["mode", "k", "row"]) fun _ _ _ _ _ _ us hl => match us, hl with | [_, _, _], _ => rfl
  have gf12 := PySem.W.mg_of X G af12
  have Ff13 := fun_mk (st := sTurned) lf13 cf13 kf13
  have bf13 := Ff13.binds (ps := ["row", "places"]) fun _ _ _ _ _ _ us hl => match us, hl with | [_, _], _ => rfl
  have gf13 := PySem.W.mg_of X G af13
  have Ff14 := fun_mk (st := sEnd) lf14 cf14 kf14
  have bf14 := Ff14.binds (ps := ["calls", "start"]) fun _ _ _ _ _ _ us hl => match us, hl with | [_, _], _ => rfl
  have gf14 := PySem.W.mg_of X G af14
  have Ff15 := fun_mk (st := sAnswer) lf15 cf15 kf15
  have bf15 := Ff15.binds (ps := ["coins", "call"]) fun _ _ _ _ _ _ us hl => match us, hl with | [_, _], _ => rfl
  have gf15 := PySem.W.mg_of X G af15
  have Ff16 := fun_mk (st := sAnswers) lf16 cf16 kf16
  have Fh0 := fun_mk (st := sInit) lh0 ch0 kh0
  have bh0 := Fh0.binds (ps := ["self"]) fun _ _ _ _ _ _ us hl => match us, hl with | [_], _ => rfl
  have Fh1 := fun_mk (st := sLay) lh1 ch1 kh1
  have bh1 := Fh1.binds (ps := ["self", "mode", "k", "row"]) fun _ _ _ _ _ _ us hl => match us, hl with | [_, _, _, _], _ => rfl
  have Fh2 := fun_mk (st := sHas) lh2 ch2 kh2
  have bh2 := Fh2.binds (ps := ["self", "number"]) fun _ _ _ _ _ _ us hl => match us, hl with | [_, _], _ => rfl
  have Fh3 := fun_mk (st := sTurn) lh3 ch3 kh3
  have bh3 := Fh3.binds (ps := ["self", "number"]) fun _ _ _ _ _ _ us hl => match us, hl with | [_, _], _ => rfl
  have Fh4 := fun_mk (st := sPlaces) lh4 ch4 kh4
  have bh4 := Fh4.binds (ps := ["self", "number"]) fun _ _ _ _ _ _ us hl => match us, hl with | [_, _], _ => rfl
  have Fh5 := fun_mk (st := sShows) lh5 ch5 kh5
  have bh5 := Fh5.binds (ps := ["self"]) fun _ _ _ _ _ _ us hl => match us, hl with | [_], _ => rfl
  have Fh6 := fun_mk (st := sChs) lh6 ch6 kh6
  have bh6 := Fh6.binds (ps := ["self"]) fun _ _ _ _ _ _ us hl => match us, hl with | [_], _ => rfl
  have Fh7 := fun_mk (st := sChTo) lh7 ch7 kh7
  have bh7 := Fh7.binds (ps := ["self", "row"]) fun _ _ _ _ _ _ us hl => match us, hl with | [_, _], _ => rfl
  have Fh8 := fun_mk (st := sRfs) lh8 ch8 kh8
  have bh8 := Fh8.binds (ps := ["self", "row"]) fun _ _ _ _ _ _ us hl => match us, hl with | [_, _], _ => rfl
  have Fh9 := fun_mk (st := sToM) lh9 ch9 kh9
  have bh9 := Fh9.binds (ps := ["self", "row"]) fun _ _ _ _ _ _ us hl => match us, hl with | [_, _], _ => rfl
  have Fh10 := fun_mk (st := sPlansM) lh10 ch10 kh10
  have bh10 := Fh10.binds (ps := ["self", "row"]) fun _ _ _ _ _ _ us hl => match us, hl with | [_, _], _ => rfl
  have Fh11 := fun_mk (st := sRowsM) lh11 ch11 kh11
  have bh11 := Fh11.binds (ps := ["self"]) fun _ _ _ _ _ _ us hl => match us, hl with | [_], _ => rfl
  have Fh12 := fun_mk (st := sFarM) lh12 ch12 kh12
  have bh12 := Fh12.binds (ps := ["self"]) fun _ _ _ _ _ _ us hl => match us, hl with | [_], _ => rfl
  have mANY_PLACES := PySem.W.mg_of X G gANY_PLACES
  have mSIDE_BY_SIDE := PySem.W.mg_of X G gSIDE_BY_SIDE
  have mIN_A_RING := PySem.W.mg_of X G gIN_A_RING
  have mCOINS := PySem.W.mg_of X G gCOINS
  have mTURN := PySem.W.mg_of X G gTURN
  have mPLACES := PySem.W.mg_of X G gPLACES
  have mSHOWS := PySem.W.mg_of X G gSHOWS
  have mTO := PySem.W.mg_of X G gTO
  have mPLANS := PySem.W.mg_of X G gPLANS
  have mROWS := PySem.W.mg_of X G gROWS
  have mMOST_COINS := PySem.W.mg_of X G gMOST_COINS
  have mNOT_COINS := PySem.W.mg_of X G gNOT_COINS
  have mNO_SUCH_TURN := PySem.W.mg_of X G gNO_SUCH_TURN
  have mOUT_OF_REACH := PySem.W.mg_of X G gOUT_OF_REACH
  have nrange := PySem.W.mg_none_of X G zrange
  have nsorted := PySem.W.mg_none_of X G zsorted
  have nall := PySem.W.mg_none_of X G zall
  have nlen := PySem.W.mg_none_of X G zlen
  have nlist := PySem.W.mg_none_of X G zlist
  have nsum := PySem.W.mg_none_of X G zsum
  have nmax := PySem.W.mg_none_of X G zmax
  have nmin := PySem.W.mg_none_of X G zmin
  have gC := PySem.W.mg_of X G aC
  have gW := PySem.W.mg_of X G aW
  have TW : TopD K dW wD := ⟨sW, ⟨_, ep, lW, .cons (.cons (.cons (.cons (.cons (.cons (.cons (.cons .nil)))))))⟩, by decide⟩
  refine ⟨PySem.W.fnOf "answers" "answers" (defArgs sAnswers) (defBody sAnswers) (defScope sAnswers) .none kVf16 dcf16 pmf16 anf16 cdf16 ctf16, fun s us hu => match us, hu with | [_], _ => .of_eq rfl, fun base _ _ => ?_⟩
  have Gf0 : FnOk P w K mg base CX0 1 f0 _ ["places", "coins"] spWom := ok_wom Ff0 nrange
  have Gf1 : FnOk P w K mg base CX0 2 f1 _ ["k", "coins"] spSets := ok_sets Ff1 nrange Gf0 gf0 kf0 bf0
  have Gf2 : FnOk P w K mg base CX0 1 f2 _ ["first", "k", "coins"] spFrom := ok_from Ff2 nrange nsorted
  have Gf3 : FnOk P w K mg base CX0 3 f3 _ ["mode", "k", "coins"] spTurns := ok_turns Ff3 nrange mANY_PLACES mIN_A_RING Gf1 gf1 kf1 bf1 Gf2 gf2 kf2 bf2
  have Gf4 : FnOk P w K mg base CX0 1 f4 _ ["row"] spNum := ok_num Ff4
  have Gf5 : FnOk P w K mg base CX0 1 f5 _ ["number", "coins"] spRowOf := ok_rowOf Ff5 nrange
  have Gf6 : FnOk P w K mg base CX0 2 f6 _ ["places", "coins"] spChg := ok_chg Ff6 nrange Gf4 gf4 kf4 bf4
  have Gf7 : FnOk P w K mg base CX0 1 f7 _ ["changes"] spNeed := ok_need Ff7
  have Gf8 : FnOk P w K mg base CX0 1 f8 _ ["left", "changes", "needed"] spNear := ok_near Ff8 nrange nlen
  have Gf9 : FnOk P w K mg base CX0 2 f9 _ ["wanted", "changes"] spPlan := ok_plan Ff9 Gf7 gf7 kf7 bf7 Gf8 gf8 kf8 bf8
  have Gf10 : FnOk P w K mg base CX0 2 f10 _ ["wanted", "changes"] spTaP := ok_tap Ff10 nsum Gf7 gf7 kf7 bf7 Gf8 gf8 kf8 bf8
  have Gf11 : FnOk P w K mg base CX0 1 f11 _ ["row"] spAll := ok_all Ff11 nall
  have Gf12 : FnOk P w K mg base CX0 2 f12 _ ["mode", "k", "row"] spCan := ok_can Ff12 nlen mANY_PLACES mSIDE_BY_SIDE mIN_A_RING mMOST_COINS Gf11 gf11 kf11 bf11
  have Gf13 : FnOk P w K mg base CX0 1 f13 _ ["row", "places"] spTurned := ok_turned Ff13 nrange nlen
  have Gh0 : FnOk P w K mg base CX0 4 h0 _ ["self"] (spInit C) := ok_init Fh0 T mANY_PLACES nlen Gf3 gf3 kf3 bf3
  have Gh1 : FnOk P w K mg base CX0 4 h1 _ ["self", "mode", "k", "row"] (spLay C) := ok_lay Fh1 T mNOT_COINS nlen nlist Gf12 gf12 kf12 bf12 Gf3 gf3 kf3 bf3
  have Gh2 : FnOk P w K mg base CX0 1 h2 _ ["self", "number"] (spHas C) := ok_has Fh2 T nlen
  have Gh3 : FnOk P w K mg base CX0 2 h3 _ ["self", "number"] (spTurn C) := ok_turn Fh3 T mNO_SUCH_TURN nsum Gh2 ⟨ah2, ih2, kh2⟩ bh2 Gf13 gf13 kf13 bf13
  have Gh4 : FnOk P w K mg base CX0 2 h4 _ ["self", "number"] (spPlaces C) := ok_places Fh4 T mNO_SUCH_TURN Gh2 ⟨ah2, ih2, kh2⟩ bh2
  have Gh5 : FnOk P w K mg base CX0 1 h5 _ ["self"] (spShows C) := ok_shows Fh5 T nlen
  have Gh6 : FnOk P w K mg base CX0 3 h6 _ ["self"] (spChs C) := ok_chs Fh6 T nlen Gf6 gf6 kf6 bf6
  have Gh7 : FnOk P w K mg base CX0 2 h7 _ ["self", "row"] (spChTo C) := ok_chto Fh7 T Gf4 gf4 kf4 bf4
  have Gh8 : FnOk P w K mg base CX0 4 h8 _ ["self", "row"] (spRfs C) := ok_rfs Fh8 T nlen mNOT_COINS mOUT_OF_REACH Gf11 gf11 kf11 bf11 Gh7 ⟨ah7, ih7, kh7⟩ bh7 Gh6 ⟨ah6, ih6, kh6⟩ bh6 Gf7 gf7 kf7 bf7
  have Gh9 : FnOk P w K mg base CX0 5 h9 _ ["self", "row"] (spTo C) := ok_to Fh9 T nlen Gh8 ⟨ah8, ih8, kh8⟩ bh8 Gh7 ⟨ah7, ih7, kh7⟩ bh7 Gh6 ⟨ah6, ih6, kh6⟩ bh6 Gf9 gf9 kf9 bf9
  have Gh10 : FnOk P w K mg base CX0 5 h10 _ ["self", "row"] (spPlansM C) := ok_plansM Fh10 T Gh8 ⟨ah8, ih8, kh8⟩ bh8 Gh7 ⟨ah7, ih7, kh7⟩ bh7 Gh6 ⟨ah6, ih6, kh6⟩ bh6 Gf10 gf10 kf10 bf10
  have Gh11 : FnOk P w K mg base CX0 4 h11 _ ["self"] (spRowsM C) := ok_rowsM Fh11 T nlen Gh6 ⟨ah6, ih6, kh6⟩ bh6 Gf7 gf7 kf7 bf7
  have Gh12 : FnOk P w K mg base CX0 4 h12 _ ["self"] (spFarM C) := ok_farM Fh12 T nlen nmax nmin Gh6 ⟨ah6, ih6, kh6⟩ bh6 Gf7 gf7 kf7 bf7 Gf4 gf4 kf4 bf4 Gf5 gf5 kf5 bf5
  have Gf14 : FnOk P w K mg base CX0 1 f14 _ ["calls", "start"] (spEnd K) := ok_end Ff14 gW TW mCOINS mTO mPLANS
  have Gf15 : FnOk P w K mg base CX0 6 f15 _ ["coins", "call"] (spAnswer C) := ok_answer Ff15 T mCOINS mTURN mPLACES mSHOWS mTO mPLANS mROWS Gh1 ⟨ah1, ih1, kh1⟩ bh1 Gh3 ⟨ah3, ih3, kh3⟩ bh3 Gh4 ⟨ah4, ih4, kh4⟩ bh4 Gh5 ⟨ah5, ih5, kh5⟩ bh5 Gh9 ⟨ah9, ih9, kh9⟩ bh9 Gh10 ⟨ah10, ih10, kh10⟩ bh10 Gh11 ⟨ah11, ih11, kh11⟩ bh11 Gh12 ⟨ah12, ih12, kh12⟩ bh12
  exact ok_answers Ff16 T nlen ⟨mk, ah0, ih0, kc⟩ gC Gh0 bh0 Gf14 gf14 kf14 bf14 Gf15 gf15 kf15 bf15
end Cn
set_option Elab.async false
open PySem PySem.W PyProof.Rows
set_option maxRecDepth 100000 in
set_option maxHeartbeats 0 in
theorem PySem.Challenge.cw_coinrow_s01_answers_holds : PySem.Challenge.rw_coinrow_s01_answers.Holds := by
  w_on; k_headS; (case hw => exact ⟨[.list [.int 3]], by decide +kernel, by decide +kernel⟩)
  k_fillS
  refine L2.walk_specK (r := PySem.Challenge.rw_coinrow_s01_answers) (k := 8) (CX := L2.CX0) (ps := ["calls"]) (sp := Cn.spAns) (by decide +kernel) rfl rfl ⟨rfl, by decide, by decide⟩ (fun w h Y => PySem.W.kIn_of Y) ?F ?S (fun _ _ _ _ z => z)
  case F =>
    intro w mg fa h Y KX G hmg
    refine' Cn.all_mk KX G hmg ?zzaf0 ?zzlf0 ?zzcf0 ?zzkf0 ?zzaf1 ?zzlf1 ?zzcf1 ?zzkf1 ?zzaf2 ?zzlf2 ?zzcf2 ?zzkf2 ?zzaf3 ?zzlf3 ?zzcf3 ?zzkf3 ?zzaf4 ?zzlf4 ?zzcf4 ?zzkf4 ?zzaf5 ?zzlf5 ?zzcf5 ?zzkf5 ?zzaf6 ?zzlf6 ?zzcf6 ?zzkf6 ?zzaf7 ?zzlf7 ?zzcf7 ?zzkf7 ?zzaf8 ?zzlf8 ?zzcf8 ?zzkf8 ?zzaf9 ?zzlf9 ?zzcf9 ?zzkf9 ?zzaf10 ?zzlf10 ?zzcf10 ?zzkf10 ?zzaf11 ?zzlf11 ?zzcf11 ?zzkf11 ?zzaf12 ?zzlf12 ?zzcf12 ?zzkf12 ?zzaf13 ?zzlf13 ?zzcf13 ?zzkf13 ?zzaf14 ?zzlf14 ?zzcf14 ?zzkf14 ?zzaf15 ?zzlf15 ?zzcf15 ?zzkf15 ?zzaf16 ?zzlf16 ?zzcf16 ?zzkf16 ?zzaC ?zzah0 ?zzih0 ?zzlh0 ?zzch0 ?zzkh0 ?zzah1 ?zzih1 ?zzlh1 ?zzch1 ?zzkh1 ?zzah2 ?zzih2 ?zzlh2 ?zzch2 ?zzkh2 ?zzah3 ?zzih3 ?zzlh3 ?zzch3 ?zzkh3 ?zzah4 ?zzih4 ?zzlh4 ?zzch4 ?zzkh4 ?zzah5 ?zzih5 ?zzlh5 ?zzch5 ?zzkh5 ?zzah6 ?zzih6 ?zzlh6 ?zzch6 ?zzkh6 ?zzah7 ?zzih7 ?zzlh7 ?zzch7 ?zzkh7 ?zzah8 ?zzih8 ?zzlh8 ?zzch8 ?zzkh8 ?zzah9 ?zzih9 ?zzlh9 ?zzch9 ?zzkh9 ?zzah10 ?zzih10 ?zzlh10 ?zzch10 ?zzkh10 ?zzah11 ?zzih11 ?zzlh11 ?zzch11 ?zzkh11 ?zzah12 ?zzih12 ?zzlh12 ?zzch12 ?zzkh12 ?zzgANY_PLACES ?zzgSIDE_BY_SIDE ?zzgIN_A_RING ?zzgCOINS ?zzgTURN ?zzgPLACES ?zzgSHOWS ?zzgTO ?zzgPLANS ?zzgROWS ?zzgMOST_COINS ?zzgNOT_COINS ?zzgNO_SUCH_TURN ?zzgOUT_OF_REACH ?zzzrange ?zzzsorted ?zzzall ?zzzlen ?zzzlist ?zzzsum ?zzzmax ?zzzmin ?zzaW ?zzlW ?zzsW ?zzpg ?zzhd ?zzpo ?zzsa ?zzmk ?zzkc ?zznM ?zznK ?zznR ?zznT
    (case zzaf0 => k_is)
    (case zzlf0 => k_is)
    (case zzcf0 => k_is)
    (case zzkf0 => k_is)
    (case zzaf1 => k_is)
    (case zzlf1 => k_is)
    (case zzcf1 => k_is)
    (case zzkf1 => k_is)
    (case zzaf2 => k_is)
    (case zzlf2 => k_is)
    (case zzcf2 => k_is)
    (case zzkf2 => k_is)
    (case zzaf3 => k_is)
    (case zzlf3 => k_is)
    (case zzcf3 => k_is)
    (case zzkf3 => k_is)
    (case zzaf4 => k_is)
    (case zzlf4 => k_is)
    (case zzcf4 => k_is)
    (case zzkf4 => k_is)
    (case zzaf5 => k_is)
    (case zzlf5 => k_is)
    (case zzcf5 => k_is)
    (case zzkf5 => k_is)
    (case zzaf6 => k_is)
    (case zzlf6 => k_is)
    (case zzcf6 => k_is)
    (case zzkf6 => k_is)
    (case zzaf7 => k_is)
    (case zzlf7 => k_is)
    (case zzcf7 => k_is)
    (case zzkf7 => k_is)
    (case zzaf8 => k_is)
    (case zzlf8 => k_is)
    (case zzcf8 => k_is)
    (case zzkf8 => k_is)
    (case zzaf9 => k_is)
    (case zzlf9 => k_is)
    (case zzcf9 => k_is)
    (case zzkf9 => k_is)
    (case zzaf10 => k_is)
    (case zzlf10 => k_is)
    (case zzcf10 => k_is)
    (case zzkf10 => k_is)
    (case zzaf11 => k_is)
    (case zzlf11 => k_is)
    (case zzcf11 => k_is)
    (case zzkf11 => k_is)
    (case zzaf12 => k_is)
    (case zzlf12 => k_is)
    (case zzcf12 => k_is)
    (case zzkf12 => k_is)
    (case zzaf13 => k_is)
    (case zzlf13 => k_is)
    (case zzcf13 => k_is)
    (case zzkf13 => k_is)
    (case zzaf14 => k_is)
    (case zzlf14 => k_is)
    (case zzcf14 => k_is)
    (case zzkf14 => k_is)
    (case zzaf15 => k_is)
    (case zzlf15 => k_is)
    (case zzcf15 => k_is)
    (case zzkf15 => k_is)
    (case zzaf16 => k_is)
    (case zzlf16 => k_is)
    (case zzcf16 => k_is)
    (case zzkf16 => k_is)
    (case zzaC => k_is)
    (case zzah0 => k_is)
    (case zzih0 => k_is)
    (case zzlh0 => k_is)
    (case zzch0 => k_is)
    (case zzkh0 => k_is)
    (case zzah1 => k_is)
    (case zzih1 => k_is)
    (case zzlh1 => k_is)
    (case zzch1 => k_is)
    (case zzkh1 => k_is)
    (case zzah2 => k_is)
    (case zzih2 => k_is)
    (case zzlh2 => k_is)
    (case zzch2 => k_is)
    (case zzkh2 => k_is)
    (case zzah3 => k_is)
    (case zzih3 => k_is)
    (case zzlh3 => k_is)
    (case zzch3 => k_is)
    (case zzkh3 => k_is)
    (case zzah4 => k_is)
    (case zzih4 => k_is)
    (case zzlh4 => k_is)
    (case zzch4 => k_is)
    (case zzkh4 => k_is)
    (case zzah5 => k_is)
    (case zzih5 => k_is)
    (case zzlh5 => k_is)
    (case zzch5 => k_is)
    (case zzkh5 => k_is)
    (case zzah6 => k_is)
    (case zzih6 => k_is)
    (case zzlh6 => k_is)
    (case zzch6 => k_is)
    (case zzkh6 => k_is)
    (case zzah7 => k_is)
    (case zzih7 => k_is)
    (case zzlh7 => k_is)
    (case zzch7 => k_is)
    (case zzkh7 => k_is)
    (case zzah8 => k_is)
    (case zzih8 => k_is)
    (case zzlh8 => k_is)
    (case zzch8 => k_is)
    (case zzkh8 => k_is)
    (case zzah9 => k_is)
    (case zzih9 => k_is)
    (case zzlh9 => k_is)
    (case zzch9 => k_is)
    (case zzkh9 => k_is)
    (case zzah10 => k_is)
    (case zzih10 => k_is)
    (case zzlh10 => k_is)
    (case zzch10 => k_is)
    (case zzkh10 => k_is)
    (case zzah11 => k_is)
    (case zzih11 => k_is)
    (case zzlh11 => k_is)
    (case zzch11 => k_is)
    (case zzkh11 => k_is)
    (case zzah12 => k_is)
    (case zzih12 => k_is)
    (case zzlh12 => k_is)
    (case zzch12 => k_is)
    (case zzkh12 => k_is)
    (case zzgANY_PLACES => k_is)
    (case zzgSIDE_BY_SIDE => k_is)
    (case zzgIN_A_RING => k_is)
    (case zzgCOINS => k_is)
    (case zzgTURN => k_is)
    (case zzgPLACES => k_is)
    (case zzgSHOWS => k_is)
    (case zzgTO => k_is)
    (case zzgPLANS => k_is)
    (case zzgROWS => k_is)
    (case zzgMOST_COINS => k_is)
    (case zzgNOT_COINS => k_is)
    (case zzgNO_SUCH_TURN => k_is)
    (case zzgOUT_OF_REACH => k_is)
    (case zzzrange => k_is)
    (case zzzsorted => k_is)
    (case zzzall => k_is)
    (case zzzlen => k_is)
    (case zzzlist => k_is)
    (case zzzsum => k_is)
    (case zzzmax => k_is)
    (case zzzmin => k_is)
    (case zzaW => k_is)
    (case zzlW => k_is)
    (case zzsW => rfl)
    (case zzpg => k_is)
    (case zzhd => k_is)
    (case zzpo => k_is)
    (case zzsa => k_is)
    (case zzmk => k_is)
    (case zzkc => k_is)
    (case zznM => k_is)
    (case zznK => k_is)
    (case zznR => k_is)
    (case zznT => k_is)
  case S =>
    intro K H xs a hO hwi hask hx
    cases hx with
    | cons h1 h2 =>
      cases h2
      cases h1 with
      | lst hs ha =>
        have e := L2.ints_dw a.1 _ ha
        subst e
        have q : ((Codec.inLen 0 1400 a.1 && a.1.all (Codec.inInt 0 4294967295)) && true) = true := hwi
        rw [Bool.and_eq_true, Bool.and_eq_true] at q
        exact ⟨_, a.1, rfl, hs, (Codec.inNat_iff.mp q.1.1).2, hask, fun H' p hp => .lst (L2.SqL.of hp) (L2.dw_ints _)⟩
