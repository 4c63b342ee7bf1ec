import PyProof.Rows.All
import Wide.All
import OpenK.AllK
import Wide.FinOn
import PyProof.EqAt
import PyProof.EqKinds
import PyProof.TupleCall
import KE.BitLaws
import Open.SpecLaws
import KE.OsHead
import KE.OsGo
import KE.KLam
import KE.KNestM
import KE.KSortKeyAny
import PySem.Challenge.RW_keptuntil_s01_answers
set_option Elab.async false
set_option linter.all false
namespace KM
open Keep

/-- what needs a thing has, none if there is no such -/
def needsOf (s : State) (x : Nat) : List Nat := ((s.thing x).map Thing.needs).getD []

theorem here_iff {s : State} {x : Nat} : s.here x = true ↔ ∃ t, s.things[x]? = some t ∧ t.gone = none := by
  unfold State.here State.thing
  cases h : s.things[x]? with
  | none => simp
  | some t => cases g : t.gone <;> simp [g]

theorem here_lt {s : State} {x : Nat} (h : s.here x = true) : x < s.things.length := by
  obtain ⟨t, e, _⟩ := here_iff.mp h
  exact (List.getElem?_eq_some_iff.mp e).1

theorem own_iff {s : State} {m x : Nat} : s.own m x = true ↔ ∃ t, s.things[x]? = some t ∧ t.gone = none ∧ (m < t.due ∨ s.held x = true) := by
  unfold State.own State.thing
  cases h : s.things[x]? with
  | none => simp
  | some t => cases g : t.gone <;> simp [g]

theorem own_here {s : State} {m x : Nat} (h : s.own m x = true) : s.here x = true := by
  obtain ⟨t, e, g, _⟩ := own_iff.mp h
  exact here_iff.mpr ⟨t, e, g⟩

/-- kept at a moment, as the words say it -/
inductive Kept (s : State) (m : Nat) : Nat → Prop
  | own {x : Nat} : s.own m x = true → Kept s m x
  | need {x y : Nat} : Kept s m x → y ∈ needsOf s x → s.here y = true → Kept s m y

theorem Kept.here {s : State} {m x : Nat} (h : Kept s m x) : s.here x = true := by
  cases h with
  | own h => exact own_here h
  | need _ _ h => exact h

/-! ### marks -/
/-- the needs of the unmarked, counted -/
def rest (s : State) (w : List Bool) : Nat := ((List.range s.things.length).map fun y => if w.getD y true = true then 0 else (needsOf s y).length).sum

theorem sum_map_le {f g : Nat → Nat} : ∀ (l : List Nat), (∀ x ∈ l, f x ≤ g x) → (l.map f).sum ≤ (l.map g).sum
  | [], _ => by simp
  | a :: r, h => by
    have ih := sum_map_le (f := f) (g := g) r (fun x hx => h x (List.mem_cons_of_mem _ hx))
    have := h a (List.mem_cons_self ..)
    simp only [List.map_cons, List.sum_cons]
    omega

theorem sum_map_lt {f g : Nat → Nat} {k : Nat} {a : Nat} : ∀ (l : List Nat), l.Nodup → a ∈ l → (∀ x ∈ l, f x ≤ g x) → f a + k ≤ g a → (l.map f).sum + k ≤ (l.map g).sum
  | [], _, h, _, _ => by simp at h
  | b :: r, nd, h, hle, hk => by
    simp only [List.map_cons, List.sum_cons]
    rw [List.nodup_cons] at nd
    rcases List.mem_cons.mp h with e | h
    · subst e
      have := sum_map_le (f := f) (g := g) r (fun x hx => hle x (List.mem_cons_of_mem _ hx))
      omega
    · have ih := sum_map_lt (f := f) (g := g) (k := k) (a := a) r nd.2 h (fun x hx => hle x (List.mem_cons_of_mem _ hx)) hk
      have := hle b (List.mem_cons_self ..)
      omega

theorem getD_set {α : Type} {w : List α} {i j : Nat} {b d : α} : (w.set i b).getD j d = if i = j ∧ i < w.length then b else w.getD j d := by
  simp only [List.getD_eq_getElem?_getD, List.getElem?_set]
  by_cases h : i = j
  · subst h
    by_cases h2 : i < w.length
    · simp [h2]
    · simp [h2]
  · simp [h]

theorem rest_set {s : State} {w : List Bool} {y : Nat} (hl : w.length = s.things.length) (h : ¬ w.getD y true = true) : rest s (w.set y true) + (needsOf s y).length ≤ rest s w := by
  have hy : y < w.length := by
    rcases Nat.lt_or_ge y w.length with q | q
    · exact q
    · exact absurd (by rw [List.getD_eq_getElem?_getD, List.getElem?_eq_none q]; rfl) h
  unfold rest
  refine sum_map_lt (a := y) _ List.nodup_range (List.mem_range.mpr (by omega)) (fun x _ => ?_) ?_
  · show (if (w.set y true).getD x true = true then 0 else (needsOf s x).length) ≤ if w.getD x true = true then 0 else (needsOf s x).length
    rw [getD_set]
    by_cases e : y = x ∧ y < w.length
    · rw [if_pos e]; simp
    · rw [if_neg e]; exact Nat.le_refl _
  · show (if (w.set y true).getD y true = true then 0 else (needsOf s y).length) + _ ≤ if w.getD y true = true then 0 else (needsOf s y).length
    have e : (w.set y true).getD y true = true := by rw [getD_set, if_pos ⟨rfl, hy⟩]
    rw [if_pos e, if_neg h]
    omega

/-- what a marked thing needs is marked, or waits -/
def Closed (s : State) (l : List Nat) (w : List Bool) : Prop := ∀ y, w.getD y false = true → ∀ z ∈ needsOf s y, s.here z = true → w.getD z false = true ∨ z ∈ l

theorem getD_tf {w : List Bool} {y : Nat} (hy : y < w.length) : w.getD y true = w.getD y false := by
  simp [List.getD_eq_getElem?_getD, List.getElem?_eq_getElem hy]

theorem getD_lt {w : List Bool} {y : Nat} (h : w.getD y false = true) : y < w.length := by
  rcases Nat.lt_or_ge y w.length with q | q
  · exact q
  · rw [List.getD_eq_getElem?_getD, List.getElem?_eq_none q] at h; cases h

theorem marked_ok (s : State) : ∀ (f : Nat) (l : List Nat) (w : List Bool), w.length = s.things.length → l.length + rest s w ≤ f → Closed s l w →
    (s.marked f l w).length = s.things.length ∧ (∀ y, w.getD y false = true → (s.marked f l w).getD y false = true) ∧ (∀ y ∈ l, y < s.things.length → (s.marked f l w).getD y false = true) ∧ Closed s [] (s.marked f l w)
  | 0, l, w, hl, hf, hc => by
    have e : l = [] := List.eq_nil_of_length_eq_zero (by omega)
    subst e
    exact ⟨hl, fun y h => h, fun y h => (by simp at h), hc⟩
  | f + 1, [], w, hl, hf, hc => ⟨hl, fun y h => h, fun y h => (by simp at h), hc⟩
  | f + 1, y :: r, w, hl, hf, hc => by
    have hf' : r.length + 1 + rest s w ≤ f + 1 := hf
    by_cases hy : w.getD y true = true
    · have e : s.marked (f + 1) (y :: r) w = s.marked f r w := by
        show (if w.getD y true = true then _ else _) = _
        rw [if_pos hy]
      rw [e]
      have hc' : Closed s r w := fun a ha z hz hh => by
        rcases hc a ha z hz hh with q | q
        · exact .inl q
        · rcases List.mem_cons.mp q with q | q
          · subst q
            left
            rw [← getD_tf (by rw [hl]; exact here_lt hh)]
            exact hy
          · exact .inr q
      obtain ⟨h1, h2, h3, h4⟩ := marked_ok s f r w hl (by omega) hc'
      refine ⟨h1, h2, fun a ha hn => ?_, h4⟩
      rcases List.mem_cons.mp ha with q | q
      · subst q
        exact h2 _ (by rw [← getD_tf (by omega)]; exact hy)
      · exact h3 a q hn
    · have e : s.marked (f + 1) (y :: r) w = s.marked f (((needsOf s y).filter s.here) ++ r) (w.set y true) := by
        show (if w.getD y true = true then _ else _) = _
        rw [if_neg hy]
        rfl
      rw [e]
      have hyn : y < w.length := by
        rcases Nat.lt_or_ge y w.length with q | q
        · exact q
        · exact absurd (by rw [List.getD_eq_getElem?_getD, List.getElem?_eq_none q]; rfl) hy
      have hr := rest_set hl hy
      have hfl := List.length_filter_le s.here (needsOf s y)
      have hc' : Closed s (((needsOf s y).filter s.here) ++ r) (w.set y true) := fun a ha z hz hh => by
        rw [getD_set] at ha
        by_cases q : y = a ∧ y < w.length
        · obtain ⟨q, _⟩ := q
          subst q
          exact .inr (List.mem_append.mpr (.inl (List.mem_filter.mpr ⟨hz, hh⟩)))
        · rw [if_neg q] at ha
          rcases hc a ha z hz hh with q | q
          · left
            rw [getD_set]
            split
            · rfl
            · exact q
          · rcases List.mem_cons.mp q with q | q
            · subst q
              left
              rw [getD_set, if_pos ⟨rfl, hyn⟩]
            · exact .inr (List.mem_append.mpr (.inr q))
      obtain ⟨h1, h2, h3, h4⟩ := marked_ok s f (((needsOf s y).filter s.here) ++ r) (w.set y true) (by rw [List.length_set]; exact hl) (by rw [List.length_append]; omega) hc'
      refine ⟨h1, fun a ha => h2 a ?_, fun a ha hn => ?_, h4⟩
      · rw [getD_set]
        split
        · rfl
        · exact ha
      · rcases List.mem_cons.mp ha with q | q
        · subst q
          exact h2 _ (by rw [getD_set, if_pos ⟨rfl, hyn⟩])
        · exact h3 a (List.mem_append.mpr (.inr q)) hn

theorem marked_sound (s : State) (P : Nat → Prop) (hP : ∀ x y, P x → y ∈ needsOf s x → s.here y = true → P y) : ∀ (f : Nat) (l : List Nat) (w : List Bool), (∀ y ∈ l, P y) → (∀ y, w.getD y false = true → P y) →
    ∀ y, (s.marked f l w).getD y false = true → P y
  | 0, l, w, h1, h2 => h2
  | f + 1, [], w, h1, h2 => h2
  | f + 1, y :: r, w, h1, h2 => by
    by_cases hy : w.getD y true = true
    · have e : s.marked (f + 1) (y :: r) w = s.marked f r w := by
        show (if w.getD y true = true then _ else _) = _
        rw [if_pos hy]
      rw [e]
      exact marked_sound s P hP f r w (fun a ha => h1 a (List.mem_cons_of_mem _ ha)) h2
    · have e : s.marked (f + 1) (y :: r) w = s.marked f (((needsOf s y).filter s.here) ++ r) (w.set y true) := by
        show (if w.getD y true = true then _ else _) = _
        rw [if_neg hy]
        rfl
      rw [e]
      refine marked_sound s P hP f _ _ (fun a ha => ?_) (fun a ha => ?_)
      · rcases List.mem_append.mp ha with q | q
        · obtain ⟨q1, q2⟩ := List.mem_filter.mp q
          exact hP y a (h1 y (List.mem_cons_self ..)) q1 q2
        · exact h1 a (List.mem_cons_of_mem _ q)
      · rw [getD_set] at ha
        by_cases q : y = a ∧ y < w.length
        · rw [← q.1]; exact h1 y (List.mem_cons_self ..)
        · rw [if_neg q] at ha
          exact h2 a ha

theorem getD_replicate {n y : Nat} : (List.replicate n false).getD y false = false := by
  rw [List.getD_eq_getElem?_getD, List.getElem?_replicate]
  split <;> rfl

theorem rest_le (s : State) (w : List Bool) : rest s w ≤ (s.things.map fun (t : Thing) => t.needs.length).sum := by
  have e : (s.things.map fun (t : Thing) => t.needs.length) = (List.range s.things.length).map fun y => (needsOf s y).length := by
    apply List.ext_getElem?
    intro i
    rw [List.getElem?_map, List.getElem?_map]
    unfold needsOf State.thing
    by_cases h : i < s.things.length
    · simp [h]
    · simp [h]
  rw [e]
  exact sum_map_le _ fun x _ => by split <;> omega

theorem mem_keptNow {s : State} {m x : Nat} : x ∈ s.keptNow m ↔ Kept s m x := by
  unfold State.keptNow
  simp only [List.mem_filter, List.mem_range]
  have hlen : ((List.range s.things.length).filter (s.own m)).length ≤ s.things.length := by
    have := List.length_filter_le (s.own m) (List.range s.things.length)
    rw [List.length_range] at this
    exact this
  have hr := rest_le s (List.replicate s.things.length false)
  obtain ⟨h1, h2, h3, h4⟩ := marked_ok s (s.things.length + (s.things.map fun (t : Thing) => t.needs.length).sum + 1) ((List.range s.things.length).filter (s.own m)) (List.replicate s.things.length false) (by simp) (by omega)
    (fun y h => by rw [getD_replicate] at h; cases h)
  constructor
  · rintro ⟨hx, h⟩
    refine marked_sound s (Kept s m) (fun x y a b c => .need a b c) _ _ _ (fun y hy => ?_) (fun y h => by rw [getD_replicate] at h; cases h) x h
    exact .own (List.mem_filter.mp hy).2
  · intro h
    refine ⟨here_lt h.here, ?_⟩
    induction h with
    | own h => exact h3 _ (List.mem_filter.mpr ⟨List.mem_range.mpr (here_lt (own_here h)), h⟩) (here_lt (own_here h))
    | need a b c ih =>
      rcases h4 _ ih _ b c with q | q
      · exact q
      · simp at q
end KM

set_option Elab.async false
set_option linter.all false
namespace KM
open Keep

/-- what goes at a moment -/
def goes (s : State) (m : Nat) : List Nat := (List.range s.things.length).filter fun (x : Nat) => s.here x && !(s.keptNow m).contains x

theorem mem_goes {s : State} {m x : Nat} : x ∈ goes s m ↔ s.here x = true ∧ ¬ Kept s m x := by
  unfold goes
  rw [List.mem_filter, List.mem_range, Bool.and_eq_true, Bool.not_eq_true', ← Bool.not_eq_true, List.contains_iff_mem, mem_keptNow]
  exact ⟨fun h => h.2, fun h => ⟨here_lt h.1, h⟩⟩

theorem letGo_eq (s : State) (m : Nat) : s.letGo m = { s with now := m, things := s.things.zipIdx.map fun (q : Thing × Nat) => if (goes s m).contains q.2 = true then { q.1 with gone := some m } else q.1, went := s.went ++ (goes s m).map fun (x : Nat) => (x, m) } := rfl

theorem letGo_thing (s : State) (m x : Nat) : (s.letGo m).things[x]? = (s.things[x]?).map fun t => if (goes s m).contains x = true then { t with gone := some m } else t := by
  rw [letGo_eq]
  show (s.things.zipIdx.map _)[x]? = _
  rw [List.getElem?_map, List.getElem?_zipIdx]
  cases s.things[x]? with
  | none => rfl
  | some t => simp

theorem letGo_len (s : State) (m : Nat) : (s.letGo m).things.length = s.things.length := by
  rw [letGo_eq]
  simp

theorem letGo_get {s : State} {m x : Nat} {t : Thing} (h : s.things[x]? = some t) : ∃ g, (s.letGo m).things[x]? = some { t with gone := g } ∧ (g = none ↔ t.gone = none ∧ Kept s m x) ∧ (t.gone ≠ none → g = t.gone) ∧ (t.gone = none → ¬ Kept s m x → g = some m) := by
  rw [letGo_thing, h]
  by_cases c : (goes s m).contains x = true
  · refine ⟨some m, by rw [Option.map_some, if_pos c], ?_, ?_, ?_⟩
    · have := mem_goes.mp (List.contains_iff_mem.mp c)
      simp [this.2]
    · intro hg
      obtain ⟨t', e, g'⟩ := here_iff.mp (mem_goes.mp (List.contains_iff_mem.mp c)).1
      rw [h] at e
      cases e
      exact absurd g' hg
    · intros; rfl
  · refine ⟨t.gone, by rw [Option.map_some, if_neg c], ?_, fun _ => rfl, ?_⟩
    · constructor
      · intro g
        refine ⟨g, ?_⟩
        by_cases k : Kept s m x
        · exact k
        · exact absurd (List.contains_iff_mem.mpr (mem_goes.mpr ⟨here_iff.mpr ⟨t, h, g⟩, k⟩)) c
      · exact fun g => g.1
    · intro g k
      exact absurd (List.contains_iff_mem.mpr (mem_goes.mpr ⟨here_iff.mpr ⟨t, h, g⟩, k⟩)) c

theorem letGo_here {s : State} {m x : Nat} : (s.letGo m).here x = true ↔ Kept s m x := by
  rw [here_iff]
  constructor
  · rintro ⟨t, e, g⟩
    cases q : s.things[x]? with
    | none =>
      rw [letGo_thing, q] at e
      cases e
    | some u =>
      obtain ⟨g', e', i, _⟩ := letGo_get (m := m) q
      rw [e] at e'
      cases e'
      exact (i.mp g).2
  · intro k
    obtain ⟨u, q, hu⟩ := here_iff.mp k.here
    obtain ⟨g', e', i, _⟩ := letGo_get (m := m) q
    exact ⟨_, e', i.mpr ⟨hu, k⟩⟩

theorem letGo_matters (s : State) (m : Nat) : (s.letGo m).matters = s.matters := rfl
theorem letGo_classes (s : State) (m : Nat) : (s.letGo m).classes = s.classes := rfl
theorem letGo_now (s : State) (m : Nat) : (s.letGo m).now = m := rfl

theorem letGo_held {s : State} {m x : Nat} : (s.letGo m).held x = s.held x := by
  unfold State.held State.thing
  rw [letGo_matters]
  congr 1
  funext a
  congr 2
  cases q : s.things[x]? with
  | none => rw [letGo_thing, q]; rfl
  | some t =>
    obtain ⟨g, e, _⟩ := letGo_get (m := m) q
    rw [e]
    rfl

theorem letGo_needs {s : State} {m x : Nat} : needsOf (s.letGo m) x = needsOf s x := by
  unfold needsOf State.thing
  cases q : s.things[x]? with
  | none => rw [letGo_thing, q]; rfl
  | some t =>
    obtain ⟨g, e, _⟩ := letGo_get (m := m) q
    rw [e]
    rfl

theorem letGo_kept {s : State} {m x : Nat} : Kept (s.letGo m) m x ↔ Kept s m x := by
  constructor
  · intro h
    exact letGo_here.mp h.here
  · intro h
    induction h with
    | own h =>
      refine .own ?_
      obtain ⟨t, e, g, d⟩ := own_iff.mp h
      obtain ⟨g', e', i, _⟩ := letGo_get (m := m) e
      exact own_iff.mpr ⟨_, e', i.mpr ⟨g, .own h⟩, by rw [letGo_held]; exact d⟩
    | need a b c ih => exact .need ih (by rw [letGo_needs]; exact b) (letGo_here.mpr (.need a b c))

theorem goes_letGo (s : State) (m : Nat) : goes (s.letGo m) m = [] := by
  rw [List.eq_nil_iff_forall_not_mem]
  intro x hx
  obtain ⟨h1, h2⟩ := mem_goes.mp hx
  exact h2 (letGo_kept.mpr (letGo_here.mp h1))

theorem letGo_of_nil {s : State} {m : Nat} (h : goes s m = []) : s.letGo m = { s with now := m } := by
  rw [letGo_eq, h]
  cases s with
  | mk now cl th ma we =>
    simp

theorem letGo_idem (s : State) (m : Nat) : (s.letGo m).letGo m = s.letGo m := by
  rw [letGo_of_nil (goes_letGo s m)]
  rfl

/-- at a moment, letting go again behind a refusal does nothing: so it may as well be done -/
theorem at_eq {s : State} {m : Nat} {f : State → State × Answer} (hl : s.late m = none) (hf : ∀ z, (f z).2.ret < 0 → (f z).1 = z) : at_ s m f = ((f (s.letGo m)).1.letGo m, (f (s.letGo m)).2) := by
  unfold at_
  rw [hl]
  show (if (f (s.letGo m)).2.ret < 0 then _ else _) = _
  by_cases c : (f (s.letGo m)).2.ret < 0
  · rw [if_pos c, hf _ c, letGo_idem]
  · rw [if_neg c]

/-! ### what always holds -/
structure ThOk (s : State) (x : Nat) (t : Thing) : Prop where
  cls : t.cls < s.classes.length
  few : t.needs.length ≤ 16
  ris : t.needs.Pairwise (· < ·)
  lt : ∀ y ∈ t.needs, y < s.things.length
  here : t.gone = none → ∀ y ∈ t.needs, s.here y = true
  gone : ∀ g, t.gone = some g → g ≤ s.now

structure Wf (s : State) : Prop where
  now : s.now < 2 ^ 40
  ncl : s.classes.length ≤ 16
  nth : s.things.length ≤ 256
  nma : s.matters.length ≤ 32
  th : ∀ x t, s.things[x]? = some t → ThOk s x t
  mt : ∀ m ∈ s.matters, m.things.Nodup ∧ m.classes.Nodup ∧ (∀ x ∈ m.things, x < s.things.length) ∧ (∀ c ∈ m.classes, c < s.classes.length)
  kp : ∀ c ∈ s.classes, c.keep < 2 ^ 39
  wn : (s.went.map (·.1)).Nodup
  wl : ∀ q ∈ s.went, ∃ t, s.things[q.1]? = some t ∧ t.gone = some q.2
  wg : ∀ x t g, s.things[x]? = some t → t.gone = some g → (x, g) ∈ s.went

/-- all that's here is kept at the last moment told -/
def Stable (s : State) : Prop := ∀ x, s.here x = true → Kept s s.now x

theorem stable_letGo (s : State) (m : Nat) : Stable (s.letGo m) := fun x h => letGo_kept.mpr (letGo_here.mp h)

theorem wf_letGo {s : State} {m : Nat} (h : Wf s) (hm : m < 2 ^ 40) (hn : s.now ≤ m) : Wf (s.letGo m) := by
  have hl := letGo_len s m
  have back : ∀ x u, (s.letGo m).things[x]? = some u → ∃ t g, s.things[x]? = some t ∧ u = { t with gone := g } ∧ (g = none ↔ t.gone = none ∧ Kept s m x) ∧ (t.gone ≠ none → g = t.gone) ∧ (t.gone = none → ¬ Kept s m x → g = some m) := by
    intro x u e
    cases q : s.things[x]? with
    | none => rw [letGo_thing, q] at e; cases e
    | some t =>
      obtain ⟨g, e', i⟩ := letGo_get (m := m) q
      rw [e] at e'
      cases e'
      exact ⟨t, g, rfl, rfl, i⟩
  refine ⟨hm, h.ncl, by rw [hl]; exact h.nth, h.nma, ?_, ?_, h.kp, ?_, ?_, ?_⟩
  · intro x u e
    obtain ⟨t, g, q, rfl, i1, i2, i3⟩ := back x u e
    have o := h.th x t q
    refine ⟨o.cls, o.few, o.ris, fun y hy => by rw [hl]; exact o.lt y hy, fun hg y hy => ?_, fun g' hg' => ?_⟩
    · obtain ⟨a, b⟩ := i1.mp hg
      refine letGo_here.mpr (.need b ?_ (o.here a y hy))
      unfold needsOf State.thing
      rw [q]
      exact hy
    · show g' ≤ m
      cases c : t.gone with
      | none =>
        by_cases k : Kept s m x
        · rw [i1.mpr ⟨c, k⟩] at hg'; cases hg'
        · have := i3 c k
          rw [this] at hg'
          cases hg'
          exact Nat.le_refl _
      | some z =>
        have := i2 (by rw [c]; intro z; cases z)
        have e2 : some z = some g' := c.symm.trans (this.symm.trans hg')
        exact Nat.le_trans (o.gone g' (c.trans e2)) hn
  · intro a ha
    obtain ⟨m1, m2, m3, m4⟩ := h.mt a ha
    exact ⟨m1, m2, fun x hx => by rw [hl]; exact m3 x hx, m4⟩
  · rw [letGo_eq]
    show ((s.went ++ (goes s m).map fun (x : Nat) => (x, m)).map (·.1)).Nodup
    rw [List.map_append, List.map_map, List.nodup_append]
    refine ⟨h.wn, ?_, ?_⟩
    · have e : ((fun (q : Nat × Nat) => q.1) ∘ fun (x : Nat) => (x, m)) = id := rfl
      rw [e, List.map_id]
      exact List.Nodup.sublist List.filter_sublist List.nodup_range
    · intro a ha b hb
      obtain ⟨q, hq, rfl⟩ := List.mem_map.mp ha
      obtain ⟨x, hx, rfl⟩ := List.mem_map.mp hb
      intro e
      obtain ⟨t, e1, g1⟩ := h.wl q hq
      obtain ⟨t', e2, g2⟩ := here_iff.mp (mem_goes.mp hx).1
      have e' : q.1 = x := e
      rw [e', e2] at e1
      cases e1
      rw [g2] at g1
      cases g1
  · intro q hq
    rw [letGo_eq] at hq
    rcases List.mem_append.mp hq with hq | hq
    · obtain ⟨t, e, g⟩ := h.wl q hq
      obtain ⟨g', e', _, i2, _⟩ := letGo_get (m := m) e
      exact ⟨_, e', by rw [← g]; exact i2 (by rw [g]; intro z; cases z)⟩
    · obtain ⟨x, hx, rfl⟩ := List.mem_map.mp hq
      obtain ⟨h1, h2⟩ := mem_goes.mp hx
      obtain ⟨t, e, g⟩ := here_iff.mp h1
      obtain ⟨g', e', _, _, i3⟩ := letGo_get (m := m) e
      exact ⟨_, e', i3 g h2⟩
  · intro x u g e hg
    obtain ⟨t, g', q, rfl, i1, i2, i3⟩ := back x u e
    rw [letGo_eq]
    cases c : t.gone with
    | none =>
      by_cases k : Kept s m x
      · have := i1.mpr ⟨c, k⟩
        have e2 : none = some g := this.symm.trans hg
        cases e2
      · have := i3 c k
        have e2 : some m = some g := this.symm.trans hg
        cases e2
        exact List.mem_append.mpr (.inr (List.mem_map.mpr ⟨x, mem_goes.mpr ⟨here_iff.mpr ⟨t, q, c⟩, k⟩, rfl⟩))
    | some z =>
      have := i2 (by rw [c]; intro z; cases z)
      have e2 : some z = some g := c.symm.trans (this.symm.trans hg)
      cases e2
      exact List.mem_append.mpr (.inl (h.wg x t g q c))
end KM

set_option Elab.async false
set_option linter.all false
namespace KM
open Keep

theorem rising_iff : ∀ {l : List Nat}, rising l = true ↔ l.Pairwise (· < ·)
  | [] => by simp [rising]
  | [a] => by simp [rising]
  | a :: b :: r => by
    have ih := rising_iff (l := b :: r)
    show (decide (a < b) && rising (b :: r)) = true ↔ _
    rw [Bool.and_eq_true, ih, @List.pairwise_cons _ _ a (b :: r), decide_eq_true_iff]
    constructor
    · rintro ⟨h1, h2⟩
      refine ⟨fun c hc => ?_, h2⟩
      rcases List.mem_cons.mp hc with e | hc
      · omega
      · have := (List.pairwise_cons.mp h2).1 c hc
        omega
    · rintro ⟨h1, h2⟩
      exact ⟨h1 b (List.mem_cons_self ..), h2⟩

theorem rising_nodup {l : List Nat} (h : l.Pairwise (· < ·)) : l.Nodup := h.imp fun h => by omega

theorem joined_perm (a b : List Nat) : (joined a b).Perm (a ++ b.filter fun x => !a.contains x) := List.mergeSort_perm _ _
theorem mem_joined {a b : List Nat} {x : Nat} : x ∈ joined a b ↔ x ∈ a ∨ x ∈ b := by
  rw [(joined_perm a b).mem_iff, List.mem_append, List.mem_filter, Bool.not_eq_true', ← Bool.not_eq_true, List.contains_iff_mem]
  constructor
  · rintro (h | h)
    · exact .inl h
    · exact .inr h.1
  · rintro (h | h)
    · exact .inl h
    · by_cases c : x ∈ a
      · exact .inl c
      · exact .inr ⟨h, c⟩
theorem nodup_joined {a b : List Nat} (ha : a.Nodup) (hb : b.Nodup) : (joined a b).Nodup := by
  rw [(joined_perm a b).nodup_iff, List.nodup_append]
  refine ⟨ha, hb.sublist List.filter_sublist, fun x hx y hy e => ?_⟩
  subst e
  have h := (List.mem_filter.mp hy).2
  rw [Bool.not_eq_true', ← Bool.not_eq_true, List.contains_iff_mem] at h
  exact h hx
theorem le_joined (a b : List Nat) : (joined a b).Pairwise (· ≤ ·) := by
  have h := List.pairwise_mergeSort (le := fun (x y : Nat) => decide (x ≤ y)) (fun x y z h1 h2 => by simp at *; omega) (fun x y => by simp; omega) (a ++ b.filter fun x => !a.contains x)
  exact h.imp fun h => of_decide_eq_true h
theorem ris_joined {a b : List Nat} (ha : a.Nodup) (hb : b.Nodup) : (joined a b).Pairwise (· < ·) := by
  have h1 := le_joined a b
  have h2 := nodup_joined ha hb
  have := List.pairwise_and_iff.mpr ⟨h1, h2⟩
  exact this.imp fun h => by omega
theorem len_joined1 {a : List Nat} {y : Nat} (h : y ∉ a) : (joined a [y]).length = a.length + 1 := by
  rw [(joined_perm a [y]).length_eq, List.length_append]
  have e : ([y].filter fun x => !a.contains x) = [y] := by
    rw [List.filter_cons, if_pos]
    · rfl
    · rw [Bool.not_eq_true', ← Bool.not_eq_true, List.contains_iff_mem]
      exact h
  rw [e]
  rfl

theorem kept_mono {s s' : State} {m : Nat} (hh : ∀ x, s.here x = true → s'.here x = true) (hn : ∀ x, s.here x = true → ∀ y ∈ needsOf s x, y ∈ needsOf s' x) (ho : ∀ x, s.own m x = true → s'.own m x = true) : ∀ x, Kept s m x → Kept s' m x := by
  intro x h
  induction h with
  | own h => exact .own (ho _ h)
  | need a b c ih => exact .need ih (hn _ a.here _ b) (hh _ c)

theorem late_none {s : State} {m : Nat} (h : s.late m = none) : m < 2 ^ 40 ∧ s.now ≤ m := by
  unfold State.late MOMENT at h
  split at h
  · cases h
  · split at h
    · cases h
    · omega

theorem good_at {s : State} {m : Nat} {f : State → State × Answer} (h : Wf s) (hs : Stable s) (hf : ∀ z, Wf z → z.now = m → Wf (f z).1 ∧ (f z).1.now = m) : Wf (at_ s m f).1 ∧ Stable (at_ s m f).1 := by
  unfold at_
  cases c : s.late m with
  | some a => exact ⟨h, hs⟩
  | none =>
    obtain ⟨h1, h2⟩ := late_none c
    have w := wf_letGo h h1 h2
    show Wf (if (f (s.letGo m)).2.ret < 0 then (s.letGo m, _) else _).1 ∧ Stable (if (f (s.letGo m)).2.ret < 0 then (s.letGo m, _) else _).1
    split
    · exact ⟨w, stable_letGo s m⟩
    · obtain ⟨w1, w2⟩ := hf _ w rfl
      exact ⟨wf_letGo w1 h1 (by omega), stable_letGo _ m⟩

/-- things replaced one for one, class, needs, gone as they were; classes, matters, went as they were -/
theorem wf_things {s : State} {g : Thing → Thing} (h : Wf s) (hc : ∀ t, (g t).cls = t.cls) (hn : ∀ t, (g t).needs = t.needs) (hg : ∀ t, (g t).gone = t.gone) : Wf { s with things := s.things.map g } := by
  have he : ∀ y, State.here { s with things := s.things.map g } y = s.here y := fun y => by
    show ((s.things.map g)[y]?).any _ = (s.things[y]?).any _
    rw [List.getElem?_map]
    cases s.things[y]? with
    | none => rfl
    | some t => show (g t).gone.isNone = t.gone.isNone; rw [hg]
  have back : ∀ x u, (s.things.map g)[x]? = some u → ∃ t, s.things[x]? = some t ∧ u = g t := fun x u e => by
    rw [List.getElem?_map] at e
    cases q : s.things[x]? with
    | none => rw [q] at e; cases e
    | some t => rw [q] at e; cases e; exact ⟨t, q, rfl⟩
  refine ⟨h.now, h.ncl, by show (s.things.map g).length ≤ _; rw [List.length_map]; exact h.nth, h.nma, ?_, ?_, h.kp, h.wn, ?_, ?_⟩
  · intro x u e
    obtain ⟨t, q, rfl⟩ := back x u e
    have o := h.th x t q
    refine ⟨by rw [hc]; exact o.cls, by rw [hn]; exact o.few, by rw [hn]; exact o.ris, ?_, ?_, ?_⟩
    · rw [hn]
      show ∀ y ∈ t.needs, y < (s.things.map g).length
      rw [List.length_map]
      exact o.lt
    · rw [hn, hg]
      intro g' y hy
      rw [he]
      exact o.here g' y hy
    · rw [hg]
      exact o.gone
  · intro a ha
    obtain ⟨m1, m2, m3, m4⟩ := h.mt a ha
    refine ⟨m1, m2, ?_, m4⟩
    show ∀ x ∈ a.things, x < (s.things.map g).length
    rw [List.length_map]
    exact m3
  · intro q hq
    obtain ⟨t, e, g1⟩ := h.wl q hq
    refine ⟨g t, ?_, by rw [hg]; exact g1⟩
    show (s.things.map g)[q.1]? = _
    rw [List.getElem?_map, e]
    rfl
  · intro x u g' e hg'
    obtain ⟨t, q, rfl⟩ := back x u e
    rw [hg] at hg'
    exact h.wg x t g' q hg'

theorem set_map {x : Nat} {t u : Thing} {l : List Thing} (h : l[x]? = some t) : ∀ y, (l.set x u)[y]? = if y = x then some u else l[y]? := by
  intro y
  rw [List.getElem?_set]
  have := (List.getElem?_eq_some_iff.mp h).1
  by_cases c : x = y
  · subst c; simp [this]
  · rw [if_neg c, if_neg (fun q => c q.symm)]

/-- one thing replaced: due and needs may be others -/
theorem wf_set {s : State} {x : Nat} {t u : Thing} (h : Wf s) (e : s.things[x]? = some t) (hc : u.cls = t.cls) (hg : u.gone = t.gone) (hf : u.needs.length ≤ 16) (hr : u.needs.Pairwise (· < ·)) (hl : ∀ y ∈ u.needs, y < s.things.length)
    (hh : t.gone = none → ∀ y ∈ u.needs, s.here y = true) : Wf { s with things := s.things.set x u } := by
  have gs := set_map (u := u) e
  have he : ∀ y, State.here { s with things := s.things.set x u } y = s.here y := fun y => by
    show ((s.things.set x u)[y]?).any _ = (s.things[y]?).any _
    rw [gs y]
    by_cases c : y = x
    · subst c
      rw [if_pos rfl, e]
      show u.gone.isNone = t.gone.isNone
      rw [hg]
    · rw [if_neg c]
  refine ⟨h.now, h.ncl, by show (s.things.set x u).length ≤ _; rw [List.length_set]; exact h.nth, h.nma, ?_, ?_, h.kp, h.wn, ?_, ?_⟩
  · intro y v q
    have q' : (if y = x then some u else s.things[y]?) = some v := (gs y).symm.trans q
    by_cases c : y = x
    · subst c
      rw [if_pos rfl] at q'
      cases q'
      have o := h.th y t e
      refine ⟨by rw [hc]; exact o.cls, hf, hr, ?_, ?_, ?_⟩
      · show ∀ z ∈ u.needs, z < (s.things.set y u).length
        rw [List.length_set]
        exact hl
      · rw [hg]
        intro g' z hz
        rw [he]
        exact hh g' z hz
      · rw [hg]
        exact o.gone
    · rw [if_neg c] at q'
      have o := h.th y v q'
      refine ⟨o.cls, o.few, o.ris, ?_, ?_, o.gone⟩
      · show ∀ z ∈ v.needs, z < (s.things.set x u).length
        rw [List.length_set]
        exact o.lt
      · intro g' z hz
        rw [he]
        exact o.here g' z hz
  · intro a ha
    obtain ⟨m1, m2, m3, m4⟩ := h.mt a ha
    refine ⟨m1, m2, ?_, m4⟩
    show ∀ y ∈ a.things, y < (s.things.set x u).length
    rw [List.length_set]
    exact m3
  · intro q hq
    obtain ⟨v, e1, g1⟩ := h.wl q hq
    by_cases c : q.1 = x
    · refine ⟨u, by show (s.things.set x u)[q.1]? = _; rw [gs, if_pos c], ?_⟩
      rw [c, e] at e1
      cases e1
      rw [hg]
      exact g1
    · exact ⟨v, by show (s.things.set x u)[q.1]? = _; rw [gs, if_neg c]; exact e1, g1⟩
  · intro y v g' q hg'
    have q' : (if y = x then some u else s.things[y]?) = some v := (gs y).symm.trans q
    by_cases c : y = x
    · subst c
      rw [if_pos rfl] at q'
      cases q'
      rw [hg] at hg'
      exact h.wg y t g' e hg'
    · rw [if_neg c] at q'
      exact h.wg y v g' q' hg'

theorem wf_matters {s : State} {l : List Matter} (h : Wf s) (hl : l.length ≤ 32) (hm : ∀ m ∈ l, m.things.Nodup ∧ m.classes.Nodup ∧ (∀ x ∈ m.things, x < s.things.length) ∧ (∀ c ∈ m.classes, c < s.classes.length)) : Wf { s with matters := l } :=
  ⟨h.now, h.ncl, h.nth, hl, fun x t e => let o := h.th x t e; ⟨o.cls, o.few, o.ris, o.lt, o.here, o.gone⟩, hm, h.kp, h.wn, h.wl, h.wg⟩

theorem wf_classes {s : State} {l : List Class} (h : Wf s) (hl : l.length ≤ 16) (hs : s.classes.length ≤ l.length) (hk : ∀ c ∈ l, c.keep < 2 ^ 39) : Wf { s with classes := l } :=
  ⟨h.now, hl, h.nth, h.nma, fun x t e => let o := h.th x t e; ⟨Nat.lt_of_lt_of_le o.cls hs, o.few, o.ris, o.lt, o.here, o.gone⟩,
    fun m hm => let ⟨a, b, c, d⟩ := h.mt m hm; ⟨a, b, c, fun x hx => Nat.lt_of_lt_of_le (d x hx) hs⟩, hk, h.wn, h.wl, h.wg⟩

theorem here_snoc {s : State} {t : Thing} {x : Nat} (hx : s.here x = true) : State.here { s with things := s.things ++ [t] } x = true := by
  obtain ⟨u, e, g⟩ := here_iff.mp hx
  refine here_iff.mpr ⟨u, ?_, g⟩
  show (s.things ++ [t])[x]? = some u
  rw [List.getElem?_append_left (List.getElem?_eq_some_iff.mp e).1]
  exact e

theorem wf_file {s : State} {t : Thing} (h : Wf s) (hl : s.things.length < 256) (hc : t.cls < s.classes.length) (hf : t.needs.length ≤ 16) (hr : t.needs.Pairwise (· < ·)) (hh : ∀ y ∈ t.needs, s.here y = true) (hg : t.gone = none) : Wf { s with things := s.things ++ [t] } := by
  have back : ∀ x u, (s.things ++ [t])[x]? = some u → s.things[x]? = some u ∨ u = t := fun x u e => by
    rcases Nat.lt_or_ge x s.things.length with c | c
    · rw [List.getElem?_append_left c] at e
      exact .inl e
    · rw [List.getElem?_append_right c] at e
      have := List.mem_of_getElem? e
      exact .inr (List.mem_singleton.mp this)
  have len : (s.things ++ [t]).length = s.things.length + 1 := by simp
  refine ⟨h.now, h.ncl, by show (s.things ++ [t]).length ≤ _; omega, h.nma, ?_, ?_, h.kp, h.wn, ?_, ?_⟩
  · intro x u e
    rcases back x u e with q | q
    · have o := h.th x u q
      refine ⟨o.cls, o.few, o.ris, ?_, fun g y hy => here_snoc (o.here g y hy), o.gone⟩
      show ∀ z ∈ u.needs, z < (s.things ++ [t]).length
      intro z hz
      have := o.lt z hz
      omega
    · subst q
      refine ⟨hc, hf, hr, ?_, fun _ y hy => here_snoc (hh y hy), fun g q => by rw [hg] at q; cases q⟩
      show ∀ z ∈ u.needs, z < (s.things ++ [u]).length
      intro z hz
      have := here_lt (hh z hz)
      omega
  · intro a ha
    obtain ⟨m1, m2, m3, m4⟩ := h.mt a ha
    refine ⟨m1, m2, ?_, m4⟩
    show ∀ y ∈ a.things, y < (s.things ++ [t]).length
    intro y hy
    have := m3 y hy
    omega
  · intro q hq
    obtain ⟨v, e1, g1⟩ := h.wl q hq
    refine ⟨v, ?_, g1⟩
    show (s.things ++ [t])[q.1]? = _
    rw [List.getElem?_append_left (List.getElem?_eq_some_iff.mp e1).1]
    exact e1
  · intro y v g' q hg'
    rcases back y v q with q | q
    · exact h.wg y v g' q hg'
    · subst q
      rw [hg] at hg'
      cases hg'

theorem names_none {s : State} {t c : List Nat} (h : s.names t c = none) : t.length ≤ 256 ∧ c.length ≤ 256 ∧ t.Nodup ∧ c.Nodup ∧ (∀ x ∈ t, s.here x = true) ∧ ∀ k ∈ c, k < s.classes.length := by
  unfold State.names LIST at h
  split at h
  · cases h
  · split at h
    · cases h
    · rename_i h1 h2
      have r1 : rising t = true := by
        cases q : rising t with
        | true => rfl
        | false => exact absurd (.inl q) h2
      have r2 : rising c = true := by
        cases q : rising c with
        | true => rfl
        | false => exact absurd (.inr q) h2
      split at h
      · rename_i h3
        exact ⟨by omega, by omega, rising_nodup (rising_iff.mp r1), rising_nodup (rising_iff.mp r2), List.all_eq_true.mp h3.1, fun k hk => of_decide_eq_true (List.all_eq_true.mp h3.2 k hk)⟩
      · cases h

theorem mem_set {α : Type} {l : List α} {i : Nat} {a b : α} (h : b ∈ l.set i a) : b ∈ l ∨ b = a := List.mem_or_eq_of_mem_set h

theorem good_step {s : State} (c : Call) (h : Wf s) (hs : Stable s) : Wf (step s c).1 ∧ Stable (step s c).1 := by
  cases c with
  | cls k e =>
    dsimp only [step]
    split
    · exact ⟨h, hs⟩
    · rename_i h1
      split
      · exact ⟨h, hs⟩
      · rename_i h2
        unfold CLASSES at h2
        unfold KEEP at h1
        refine ⟨wf_classes h (by simp; omega) (by simp) fun c hc => ?_, fun x hx => kept_mono (s := s) (s' := { s with classes := s.classes ++ [⟨k, e == 1⟩] }) (fun _ h => h) (fun _ _ _ h => h) (fun _ h => h) x (hs x hx)⟩
        rcases List.mem_append.mp hc with q | q
        · exact h.kp c q
        · rw [List.mem_singleton.mp q]
          show k < 2 ^ 39
          omega
  | longer c k =>
    dsimp only [step]
    cases e : s.classes[c]? with
    | none => exact ⟨h, hs⟩
    | some x =>
      dsimp only
      split
      · exact ⟨h, hs⟩
      · rename_i h1
        unfold KEEP at h1
        have w := wf_classes (l := s.classes.set c { x with keep := k }) h (by rw [List.length_set]; exact h.ncl) (by rw [List.length_set]; exact Nat.le_refl _) fun z hz => by
          rcases mem_set hz with q | q
          · exact h.kp z q
          · rw [q]; show k < 2 ^ 39; omega
        have w2 := wf_things (g := fun (t : Thing) => if t.cls = c ∧ t.gone = none ∧ t.due = t.filed + x.keep then { t with due := t.filed + k } else t) w (fun t => by split <;> rfl) (fun t => by split <;> rfl) (fun t => by split <;> rfl)
        refine ⟨w2, fun y hy => ?_⟩
        have gt : ∀ y, (s.things.map fun (t : Thing) => if t.cls = c ∧ t.gone = none ∧ t.due = t.filed + x.keep then { t with due := t.filed + k } else t)[y]? = (s.things[y]?).map fun (t : Thing) => if t.cls = c ∧ t.gone = none ∧ t.due = t.filed + x.keep then { t with due := t.filed + k } else t := fun y => by rw [List.getElem?_map]
        have hh : ∀ y, s.here y = true ↔ State.here { s with classes := s.classes.set c { x with keep := k }, things := s.things.map fun (t : Thing) => if t.cls = c ∧ t.gone = none ∧ t.due = t.filed + x.keep then { t with due := t.filed + k } else t } y = true := fun y => by
          rw [here_iff, here_iff]
          show _ ↔ ∃ t, (s.things.map _)[y]? = some t ∧ _
          rw [gt]
          cases q : s.things[y]? with
          | none => simp
          | some t =>
            simp only [Option.map_some, Option.some.injEq]
            constructor
            · rintro ⟨t', rfl, g⟩; exact ⟨_, rfl, by split <;> exact g⟩
            · rintro ⟨t', rfl, g⟩; refine ⟨_, rfl, ?_⟩; split at g <;> exact g
        refine kept_mono (s := s) (fun z hz => (hh z).mp hz) (fun z hz a ha => ?_) (fun z hz => ?_) y (hs y ((hh y).mpr hy))
        · unfold needsOf State.thing at ha ⊢
          show a ∈ (((s.things.map _)[z]?).map Thing.needs).getD []
          rw [gt]
          cases q : s.things[z]? with
          | none => rw [q] at ha; exact ha
          | some t =>
            rw [q] at ha
            simp only [Option.map_some, Option.getD_some] at ha ⊢
            split <;> exact ha
        · obtain ⟨t, e1, g1, d1⟩ := own_iff.mp hz
          refine own_iff.mpr ⟨if t.cls = c ∧ t.gone = none ∧ t.due = t.filed + x.keep then { t with due := t.filed + k } else t, ?_, by split <;> exact g1, ?_⟩
          · show (s.things.map _)[z]? = _
            rw [gt, e1]
            rfl
          · rcases d1 with d1 | d1
            · left
              show s.now < _
              have d2 : s.now < t.due := d1
              split
              · show s.now < t.filed + k
                omega
              · exact d2
            · right
              unfold State.held State.thing at d1 ⊢
              show s.matters.any _ = true
              rw [List.any_eq_true] at d1 ⊢
              obtain ⟨m, hm, q⟩ := d1
              refine ⟨m, hm, ?_⟩
              rw [e1] at q
              show (m.stands && (m.things.contains z || ((s.things.map _)[z]?).any _)) = true
              rw [gt, e1]
              simp only [Option.map_some, Option.any_some] at q ⊢
              rw [show (if t.cls = c ∧ t.gone = none ∧ t.due = t.filed + x.keep then { t with due := t.filed + k } else t).cls = t.cls from by split <;> rfl]
              exact q
  | file m c l =>
    refine good_at h hs fun z hz hm => ?_
    split
    · exact ⟨hz, hm⟩
    · rename_i h1
      unfold NEEDS at h1
      split
      · exact ⟨hz, hm⟩
      · rename_i h2
        cases e : z.classes[c]? with
        | none => exact ⟨hz, hm⟩
        | some x =>
          dsimp only
          split
          · exact ⟨hz, hm⟩
          · rename_i h3
            split
            · exact ⟨hz, hm⟩
            · rename_i h4
              unfold THINGS at h4
              refine ⟨wf_file hz (by omega) (List.getElem?_eq_some_iff.mp e).1 (by show l.length ≤ 16; omega) (rising_iff.mp (by simpa using h2)) (fun y hy => ?_) rfl, hm⟩
              have h3' : l.all z.here = true := by simpa using h3
              exact List.all_eq_true.mp h3' y hy
  | need m x y =>
    refine good_at h hs fun z hz hm => ?_
    cases e : z.thing x with
    | none => exact ⟨hz, hm⟩
    | some t =>
      dsimp only
      split
      · exact ⟨hz, hm⟩
      · rename_i h1
        split
        · exact ⟨hz, hm⟩
        · rename_i h2
          split
          · exact ⟨hz, hm⟩
          · rename_i h3
            unfold NEEDS at h3
            have o := hz.th x t e
            have hy : z.here y = true := by
              cases q : z.here y with
              | true => rfl
              | false => exact absurd (.inr q) h1
            have h2' : y ∉ t.needs := by rw [List.contains_iff_mem] at h2; exact h2
            refine ⟨wf_set (t := t) hz e rfl rfl ?_ ?_ ?_ ?_, hm⟩
            · show (joined t.needs [y]).length ≤ 16
              rw [len_joined1 h2']
              omega
            · exact ris_joined (rising_nodup o.ris) (by simp)
            · intro a ha
              rcases mem_joined.mp ha with q | q
              · exact o.lt a q
              · rw [List.mem_singleton.mp q]; exact here_lt hy
            · intro g a ha
              rcases mem_joined.mp ha with q | q
              · exact o.here g a q
              · rw [List.mem_singleton.mp q]; exact hy
  | matter m t c =>
    refine good_at h hs fun z hz hm => ?_
    cases e : z.names t c with
    | some a => exact ⟨hz, hm⟩
    | none =>
      dsimp only
      split
      · exact ⟨hz, hm⟩
      · rename_i h1
        unfold MATTERS at h1
        obtain ⟨n1, n2, n3, n4, n5, n6⟩ := names_none e
        refine ⟨wf_matters hz (by simp; omega) fun a ha => ?_, hm⟩
        rcases List.mem_append.mp ha with q | q
        · exact hz.mt a q
        · rw [List.mem_singleton.mp q]
          exact ⟨n3, n4, fun x hx => here_lt (n5 x hx), n6⟩
  | more m i t c =>
    refine good_at h hs fun z hz hm => ?_
    cases e : z.names t c with
    | some a => exact ⟨hz, hm⟩
    | none =>
      dsimp only
      cases e2 : z.matters[i]? with
      | none => exact ⟨hz, hm⟩
      | some x =>
        dsimp only
        split
        · exact ⟨hz, hm⟩
        · obtain ⟨n1, n2, n3, n4, n5, n6⟩ := names_none e
          obtain ⟨o1, o2, o3, o4⟩ := hz.mt x (List.mem_of_getElem? e2)
          refine ⟨wf_matters hz (by rw [List.length_set]; exact hz.nma) fun a ha => ?_, hm⟩
          rcases mem_set ha with q | q
          · exact hz.mt a q
          · rw [q]
            refine ⟨nodup_joined o1 n3, nodup_joined o2 n4, fun y hy => ?_, fun y hy => ?_⟩
            · rcases mem_joined.mp hy with q | q
              · exact o3 y q
              · exact here_lt (n5 y q)
            · rcases mem_joined.mp hy with q | q
              · exact o4 y q
              · exact n6 y q
  | release m i =>
    refine good_at h hs fun z hz hm => ?_
    cases e2 : z.matters[i]? with
    | none => exact ⟨hz, hm⟩
    | some x =>
      dsimp only
      split
      · exact ⟨hz, hm⟩
      · refine ⟨wf_matters hz (by rw [List.length_set]; exact hz.nma) fun a ha => ?_, hm⟩
        rcases mem_set ha with q | q
        · exact hz.mt a q
        · rw [q]
          exact hz.mt x (List.mem_of_getElem? e2)
  | ask m x =>
    refine good_at h hs fun z hz hm => ?_
    cases e : z.thing x with
    | none => exact ⟨hz, hm⟩
    | some t =>
      dsimp only
      split
      · exact ⟨hz, hm⟩
      · split
        · exact ⟨hz, hm⟩
        · have o := hz.th x t e
          exact ⟨wf_set (t := t) hz e rfl rfl o.few o.ris o.lt o.here, hm⟩
  | tick m =>
    dsimp only [step]
    cases e : s.late m with
    | some a => exact ⟨h, hs⟩
    | none =>
      obtain ⟨h1, h2⟩ := late_none e
      exact ⟨wf_letGo h h1 h2, stable_letGo s m⟩
  | thing x => exact ⟨h, hs⟩
  | when_ x => exact ⟨h, hs⟩
  | next => exact ⟨h, hs⟩
  | why x => exact ⟨h, hs⟩
  | went i => exact ⟨h, hs⟩
  | told => exact ⟨h, hs⟩

theorem good_start : Wf start ∧ Stable start := by
  refine ⟨⟨by show 0 < 2 ^ 40; decide, by decide, by decide, by decide, fun x t e => ?_, fun m hm => ?_, fun c hc => ?_, by decide, fun q hq => ?_, fun x t g e => ?_⟩, fun x hx => ?_⟩
  · cases e
  · cases hm
  · cases hc
  · cases hq
  · cases e
  · have := here_lt hx
    exact absurd this (Nat.not_lt_zero _)
end KM

set_option Elab.async false
set_option linter.all false
namespace KM
open Keep

/-- none: never; it is above all -/
def leO : Option Nat → Option Nat → Prop
  | _, none => True
  | none, some _ => False
  | some a, some b => a ≤ b
theorem leO_refl : ∀ a, leO a a
  | none => trivial
  | some a => Nat.le_refl a
theorem leO_trans : ∀ {a b c}, leO a b → leO b c → leO a c
  | _, _, none, _, _ => trivial
  | _, none, some _, _, h => h.elim
  | none, some _, some _, h, _ => h.elim
  | some _, some _, some _, h, h' => Nat.le_trans h h'
theorem leO_antisymm : ∀ {a b}, leO a b → leO b a → a = b
  | none, none, _, _ => rfl
  | none, some _, h, _ => h.elim
  | some _, none, _, h => h.elim
  | some a, some b, h, h' => congrArg some (Nat.le_antisymm h h')
theorem leO_none : ∀ a, leO a none
  | none => trivial
  | some _ => trivial
theorem laterOf_left : ∀ a b, leO a (laterOf a b)
  | some a, some b => Nat.le_max_left a b
  | some a, none => trivial
  | none, some _ => trivial
  | none, none => trivial
theorem laterOf_right : ∀ a b, leO b (laterOf a b)
  | some a, some b => Nat.le_max_right a b
  | some a, none => trivial
  | none, some _ => trivial
  | none, none => trivial
theorem laterOf_or : ∀ a b, laterOf a b = a ∨ laterOf a b = b
  | some a, some b => by
    show some (max a b) = some a ∨ some (max a b) = some b
    rcases Nat.le_total a b with h | h
    · right; rw [Nat.max_eq_right h]
    · left; rw [Nat.max_eq_left h]
  | some a, none => .inr rfl
  | none, some _ => .inl rfl
  | none, none => .inl rfl

/-- a thing's own when -/
def ini (s : State) (x : Nat) : Option Nat := if s.held x = true then none else some (max s.now (((s.thing x).map Thing.due).getD 0))

/-- z is x, or z is here and needs x through others -/
inductive Up (s : State) : Nat → Nat → Prop
  | refl (x : Nat) : Up s x x
  | step {x y z : Nat} : s.here y = true → x ∈ needsOf s y → Up s y z → Up s x z

theorem Up.trans {s : State} {x y z : Nat} (a : Up s x y) (b : Up s y z) : Up s x z := by
  induction a with
  | refl => exact b
  | step h1 h2 _ ih => exact .step h1 h2 (ih b)

inductive UpN (s : State) : Nat → Nat → Nat → Prop
  | refl (x : Nat) : UpN s 0 x x
  | step {k x y z : Nat} : s.here y = true → x ∈ needsOf s y → UpN s k y z → UpN s (k + 1) x z

def Covers (s : State) (w : List (Option Nat)) (j : Nat) : Prop := ∀ i x z, i ≤ j → UpN s i x z → leO (ini s z) (w.getD x none)

def inner (w : List (Option Nat)) (y : Nat) (l : List Nat) : List (Option Nat) := l.foldl (fun (w : List (Option Nat)) (x : Nat) => w.set x (laterOf (w.getD x none) (w.getD y none))) w

theorem set_ge {w : List (Option Nat)} {x : Nat} {v : Option Nat} (h : leO (w.getD x none) v) (a : Nat) : leO (w.getD a none) ((w.set x v).getD a none) := by
  rw [getD_set]
  split
  · rename_i e; rw [← e.1]; exact h
  · exact leO_refl _
theorem set_at {w : List (Option Nat)} {x : Nat} {v : Option Nat} : leO v ((w.set x v).getD x none) := by
  rw [getD_set]
  by_cases c : x < w.length
  · rw [if_pos ⟨rfl, c⟩]; exact leO_refl _
  · rw [if_neg (fun q => c q.2), List.getD_eq_getElem?_getD, List.getElem?_eq_none (by omega)]
    exact leO_none _

theorem inner_len (y : Nat) : ∀ (l : List Nat) (w : List (Option Nat)), (inner w y l).length = w.length
  | [], w => rfl
  | a :: l, w => by
    show (inner (w.set a _) y l).length = _
    rw [inner_len y l, List.length_set]
theorem inner_ge (y : Nat) : ∀ (l : List Nat) (w : List (Option Nat)) (a : Nat), leO (w.getD a none) ((inner w y l).getD a none)
  | [], w, a => leO_refl _
  | b :: l, w, a => leO_trans (set_ge (laterOf_left _ _) a) (inner_ge y l (w.set b (laterOf (w.getD b none) (w.getD y none))) a)
theorem inner_at (y : Nat) : ∀ (l : List Nat) (w : List (Option Nat)) (x : Nat), x ∈ l → leO (w.getD y none) ((inner w y l).getD x none)
  | [], w, x, h => by simp at h
  | b :: l, w, x, h => by
    rcases List.mem_cons.mp h with e | h
    · subst e
      exact leO_trans (laterOf_right (w.getD x none) _) (leO_trans set_at (inner_ge y l _ x))
    · exact leO_trans (set_ge (laterOf_left _ _) y) (inner_at y l (w.set b (laterOf (w.getD b none) (w.getD y none))) x h)

def outer (s : State) (w : List (Option Nat)) (l : List Nat) : List (Option Nat) := l.foldl (fun (w : List (Option Nat)) (y : Nat) => if s.here y = true then inner w y (needsOf s y) else w) w

theorem round_eq (s : State) (w : List (Option Nat)) : s.whenRound w = outer s w (List.range s.things.length).reverse := rfl

theorem outer_len (s : State) : ∀ (l : List Nat) (w : List (Option Nat)), (outer s w l).length = w.length
  | [], w => rfl
  | a :: l, w => by
    show (outer s (if s.here a = true then inner w a (needsOf s a) else w) l).length = _
    rw [outer_len s l]
    split
    · exact inner_len ..
    · rfl
theorem outer_ge (s : State) : ∀ (l : List Nat) (w : List (Option Nat)) (a : Nat), leO (w.getD a none) ((outer s w l).getD a none)
  | [], w, a => leO_refl _
  | b :: l, w, a => by
    refine leO_trans ?_ (outer_ge s l (if s.here b = true then inner w b (needsOf s b) else w) a)
    split
    · exact inner_ge ..
    · exact leO_refl _
theorem outer_at (s : State) {y x : Nat} (hh : s.here y = true) (hx : x ∈ needsOf s y) : ∀ (l : List Nat) (w : List (Option Nat)), y ∈ l → leO (w.getD y none) ((outer s w l).getD x none)
  | [], w, h => by simp at h
  | b :: l, w, h => by
    rcases List.mem_cons.mp h with e | h
    · subst e
      refine leO_trans ?_ (outer_ge s l (if s.here y = true then inner w y (needsOf s y) else w) x)
      rw [if_pos hh]
      exact inner_at y _ w x hx
    · refine leO_trans ?_ (outer_at s hh hx l (if s.here b = true then inner w b (needsOf s b) else w) h)
      split
      · exact inner_ge ..
      · exact leO_refl _

theorem covers_round {s : State} {w : List (Option Nat)} {j : Nat} (h : Covers s w j) : Covers s (s.whenRound w) (j + 1) := by
  intro i x z hi u
  rw [round_eq]
  cases u with
  | refl => exact leO_trans (h 0 x x (Nat.zero_le _) (.refl x)) (outer_ge ..)
  | step h1 h2 u =>
    rename_i k y
    exact leO_trans (h k y z (by omega) u) (outer_at s h1 h2 _ w (List.mem_reverse.mpr (List.mem_range.mpr (here_lt h1))))

theorem covers_whens {s : State} : ∀ (k : Nat) (w : List (Option Nat)) (j : Nat), Covers s w j → Covers s (s.whens k w) (j + k)
  | 0, w, j, h => h
  | k + 1, w, j, h => by
    show Covers s (if s.whenRound w = w then w else s.whens k (s.whenRound w)) _
    split
    · rename_i e
      have : ∀ i, Covers s w (j + i) := by
        intro i
        induction i with
        | zero => exact h
        | succ i ih =>
          have := covers_round ih
          rw [e] at this
          exact this
      exact this (k + 1)
    · have := covers_whens k (s.whenRound w) (j + 1) (covers_round h)
      rw [show j + (k + 1) = j + 1 + k by omega]
      exact this

/-- each of the table is somebody's own when -/
def Att (s : State) (w : List (Option Nat)) : Prop := w.length = s.things.length ∧ ∀ x, x < s.things.length → ∃ z, Up s x z ∧ w.getD x none = ini s z

theorem att_inner {s : State} {y : Nat} (hh : s.here y = true) : ∀ (l : List Nat) (w : List (Option Nat)), (∀ x ∈ l, x ∈ needsOf s y) → Att s w → Att s (inner w y l)
  | [], w, _, h => h
  | b :: l, w, hl, h => by
    refine att_inner hh l (w.set b (laterOf (w.getD b none) (w.getD y none))) (fun x hx => hl x (List.mem_cons_of_mem _ hx)) ⟨by rw [List.length_set]; exact h.1, fun x hx => ?_⟩
    rw [getD_set]
    split
    · rename_i e
      rcases laterOf_or (w.getD b none) (w.getD y none) with q | q
      · rw [q, e.1]
        exact h.2 x hx
      · rw [q]
        obtain ⟨z, u, e2⟩ := h.2 y (here_lt hh)
        refine ⟨z, .step hh ?_ u, e2⟩
        rw [← e.1]
        exact hl b (List.mem_cons_self ..)
    · exact h.2 x hx
theorem att_outer {s : State} : ∀ (l : List Nat) (w : List (Option Nat)), Att s w → Att s (outer s w l)
  | [], w, h => h
  | b :: l, w, h => by
    refine att_outer l (if s.here b = true then inner w b (needsOf s b) else w) ?_
    split
    · rename_i hh; exact att_inner hh _ w (fun _ q => q) h
    · exact h
theorem att_whens {s : State} : ∀ (k : Nat) (w : List (Option Nat)), Att s w → Att s (s.whens k w)
  | 0, w, h => h
  | k + 1, w, h => by
    show Att s (if s.whenRound w = w then w else s.whens k (s.whenRound w))
    split
    · exact h
    · exact att_whens k _ (by rw [round_eq]; exact att_outer _ w h)

/-! ### a way without a place twice -/
def Walk (s : State) : List Nat → Prop
  | [] => False
  | [_] => True
  | a :: b :: r => s.here b = true ∧ a ∈ needsOf s b ∧ Walk s (b :: r)

theorem walk_suffix {s : State} : ∀ {l : List Nat} {x z : Nat}, Walk s l → x ∈ l → l.getLast? = some z → l.Nodup → ∃ r, Walk s (x :: r) ∧ (x :: r).getLast? = some z ∧ (x :: r).Nodup ∧ ∀ a ∈ x :: r, a ∈ l
  | [], _, _, h, _, _, _ => h.elim
  | a :: r, x, z, h, hx, hl, hn => by
    rcases List.mem_cons.mp hx with e | hx
    · subst e
      exact ⟨r, h, hl, hn, fun _ q => q⟩
    · cases r with
      | nil => simp at hx
      | cons b r =>
        obtain ⟨r', h1, h2, h3, h4⟩ := walk_suffix (l := b :: r) (x := x) (z := z) h.2.2 hx (by rw [List.getLast?_cons_cons] at hl; exact hl) (List.nodup_cons.mp hn).2
        exact ⟨r', h1, h2, h3, fun a q => List.mem_cons_of_mem _ (h4 a q)⟩

theorem walk_of {s : State} {x z : Nat} (u : Up s x z) : ∃ r, Walk s (x :: r) ∧ (x :: r).getLast? = some z ∧ (x :: r).Nodup ∧ ∀ a ∈ r, s.here a = true := by
  induction u with
  | refl x => exact ⟨[], trivial, rfl, by simp, fun a h => by simp at h⟩
  | @step x y z h1 h2 _ ih =>
    obtain ⟨r, w, l, n, hh⟩ := ih
    by_cases c : x ∈ y :: r
    · obtain ⟨r', q1, q2, q3, q4⟩ := walk_suffix w c l n
      refine ⟨r', q1, q2, q3, fun a ha => ?_⟩
      rcases List.mem_cons.mp (q4 a (List.mem_cons_of_mem _ ha)) with e | e
      · rw [e]; exact h1
      · exact hh a e
    · refine ⟨y :: r, ⟨h1, h2, w⟩, by rw [List.getLast?_cons_cons]; exact l, List.nodup_cons.mpr ⟨c, n⟩, fun a ha => ?_⟩
      rcases List.mem_cons.mp ha with e | e
      · rw [e]; exact h1
      · exact hh a e

theorem upN_of_walk {s : State} : ∀ (r : List Nat) (x z : Nat), Walk s (x :: r) → (x :: r).getLast? = some z → UpN s r.length x z
  | [], x, z, _, e => by
    have e' : x = z := Option.some.inj e
    subst e'
    exact .refl x
  | b :: r, x, z, h, e => .step h.1 h.2.1 (upN_of_walk r b z h.2.2 (by rw [List.getLast?_cons_cons] at e; exact e))

theorem nodup_le : ∀ (n : Nat) (l : List Nat), l.Nodup → (∀ x ∈ l, x < n) → l.length ≤ n
  | 0, l, _, h => by
    cases l with
    | nil => exact Nat.le_refl _
    | cons a r => exact absurd (h a (List.mem_cons_self ..)) (Nat.not_lt_zero _)
  | n + 1, l, hn, h => by
    have ih := nodup_le n (l.erase n) (hn.erase n) fun x hx => by
      have h1 := h x (List.mem_of_mem_erase hx)
      have h2 : x ≠ n := fun e => by
        subst e
        exact (List.Nodup.not_mem_erase hn) hx
      omega
    have := List.length_erase_le (a := n) (l := l)
    rw [List.length_erase] at ih
    split at ih <;> omega

theorem upN_of {s : State} {x z : Nat} (hx : x < s.things.length) (u : Up s x z) : ∃ k, k ≤ s.things.length ∧ UpN s k x z := by
  obtain ⟨r, w, l, n, hh⟩ := walk_of u
  refine ⟨r.length, ?_, upN_of_walk r x z w l⟩
  have := nodup_le s.things.length (x :: r) n fun a ha => by
    rcases List.mem_cons.mp ha with e | e
    · rw [e]; exact hx
    · exact here_lt (hh a e)
  simp only [List.length_cons] at this
  omega

def tab0 (s : State) : List (Option Nat) := (List.range s.things.length).map fun (x : Nat) => ini s x

theorem tab0_get {s : State} {x : Nat} (h : x < s.things.length) : (tab0 s).getD x none = ini s x := by
  unfold tab0
  rw [List.getD_eq_getElem?_getD, List.getElem?_map, List.getElem?_range h]
  rfl

theorem table_eq (s : State) : s.whenTable = s.whens s.things.length (tab0 s) := rfl

/-- **when, told plainly**: the greatest own when of all that needs it -/
structure IsWhen (s : State) (x : Nat) (v : Option Nat) : Prop where
  ge : ∀ z, Up s x z → leO (ini s z) v
  at_ : ∃ z, Up s x z ∧ v = ini s z

theorem IsWhen.unique {s : State} {x : Nat} {v u : Option Nat} (a : IsWhen s x v) (b : IsWhen s x u) : v = u := by
  obtain ⟨z, h1, h2⟩ := a.at_
  obtain ⟨z', h3, h4⟩ := b.at_
  exact leO_antisymm (h2 ▸ b.ge z h1) (h4 ▸ a.ge z' h3)

theorem table_is {s : State} {x : Nat} (hx : x < s.things.length) : IsWhen s x (s.whenTable.getD x none) := by
  rw [table_eq]
  have c0 : Covers s (tab0 s) 0 := fun i y z hi u => by
    have : i = 0 := by omega
    subst this
    cases u
    rcases Nat.lt_or_ge y s.things.length with c | c
    · rw [tab0_get c]; exact leO_refl _
    · rw [List.getD_eq_getElem?_getD, List.getElem?_eq_none (by unfold tab0; simp; omega)]; exact leO_none _
  have a0 : Att s (tab0 s) := ⟨by unfold tab0; simp, fun y hy => ⟨y, .refl y, tab0_get hy⟩⟩
  have c := covers_whens s.things.length (tab0 s) 0 c0
  have a := att_whens s.things.length (tab0 s) a0
  refine ⟨fun z u => ?_, a.2 x hx⟩
  obtain ⟨k, h1, h2⟩ := upN_of hx u
  exact c k x z (by omega) h2
end KM

/-! What's marked from the latest due on, and the first that goes. -/
set_option Elab.async false
set_option linter.all false
namespace KM
open Keep
/-- with a thing all that it needs -/
def Clo (s : State) (l : List Nat) : Prop := ∀ y ∈ l, ∀ z ∈ needsOf s y, z ∈ l
theorem Up.here {s : State} {n z : Nat} (u : Up s n z) (h : s.here n = true) : s.here z = true := by
  induction u with
  | refl => exact h
  | step h1 _ _ ih => exact ih h1
theorem clo_up {s : State} {l : List Nat} (c : Clo s l) {n z : Nat} (u : Up s n z) (h : z ∈ l) : n ∈ l := by
  induction u with
  | refl => exact h
  | step h1 h2 _ ih => exact c _ (ih h) _ h2
theorem kept_up {s : State} {m n : Nat} (k : Kept s m n) : ∃ z, s.own m z = true ∧ Up s n z := by
  induction k with
  | own h => exact ⟨_, h, .refl _⟩
  | need k h1 h2 ih =>
    obtain ⟨z, h3, u⟩ := ih
    exact ⟨z, h3, .step k.here h1 u⟩
theorem up_kept {s : State} {m n z : Nat} (u : Up s n z) (hn : s.here n = true) (h : s.own m z = true) : Kept s m n := by
  induction u with
  | refl => exact .own h
  | step h1 h2 _ ih => exact .need (ih h1 h) h2 hn
theorem kept_clo {s : State} {m : Nat} {l : List Nat} (c : Clo s l) (h : ∀ x, s.own m x = true → x ∈ l) {n : Nat} (k : Kept s m n) : n ∈ l := by
  obtain ⟨z, h1, u⟩ := kept_up k
  exact clo_up c u (h z h1)
theorem ini_held {s : State} {z : Nat} (h : s.held z = true) : ini s z = none := by unfold ini; rw [if_pos h]
theorem ini_due {s : State} {z : Nat} {t : Thing} (h : s.held z = false) (e : s.things[z]? = some t) : ini s z = some (max s.now t.due) := by
  unfold ini
  rw [if_neg (by rw [h]; exact Bool.false_ne_true)]
  unfold State.thing
  rw [e]
  rfl
theorem when_held {s : State} {n z : Nat} (u : Up s n z) (h : s.held z = true) : IsWhen s n none := ⟨fun _ _ => leO_none _, z, u, (ini_held h).symm⟩
theorem when_due {s : State} {n x d : Nat} {t : Thing} (St : Stable s) (hn : s.here n = true) (nh : ∀ z, Up s n z → s.held z = false) (le : ∀ z t, Up s n z → s.things[z]? = some t → t.due ≤ d) (u : Up s n x) (e : s.things[x]? = some t) (hd : t.due = d) : IsWhen s n (some d) := by
  have hnow : s.now ≤ d := by
    obtain ⟨z, h1, u1⟩ := kept_up (St n hn)
    obtain ⟨tz, e1, _, h2⟩ := own_iff.mp h1
    rcases h2 with h2 | h2
    · have := le z tz u1 e1
      omega
    · rw [nh z u1] at h2; cases h2
  refine ⟨fun z uz => ?_, x, u, ?_⟩
  · obtain ⟨tz, e1, _⟩ := here_iff.mp (uz.here hn)
    rw [ini_due (nh z uz) e1]
    have := le z tz uz e1
    show max s.now tz.due ≤ d
    omega
  · rw [ini_due (nh x u) e, hd]
    congr 1
    omega
/-- the first of the least -/
def Least (s : State) (b : Option (Nat × Nat)) (l : List Nat) : Prop := match b with
  | none => ∀ y ∈ l, s.here y = true → s.whenTable.getD y none = none
  | some (x, w) => x ∈ l ∧ s.here x = true ∧ s.whenTable.getD x none = some w ∧ ∀ y ∈ l, s.here y = true → ∀ u, s.whenTable.getD y none = some u → w < u ∨ (w = u ∧ x ≤ y)
theorem next_least (s : State) : Least s s.next (List.range s.things.length) := by
  have key : ∀ (n : Nat), Least s ((List.range n).foldl (fun (b : Option (Nat × Nat)) (x : Nat) => if s.here x = true then (match s.whenTable.getD x none with
    | none => b
    | some w => match b with
      | none => some (x, w)
      | some c => if w < c.2 then some (x, w) else b) else b) none) (List.range n) := by
    intro n
    induction n with
    | zero => intro y hy; simp at hy
    | succ n ih =>
      rw [List.range_succ, List.foldl_append, List.foldl_cons, List.foldl_nil]
      generalize (List.range n).foldl _ none = b at ih
      have keep : (s.here n = true → s.whenTable.getD n none = none) → Least s b (List.range n ++ [n]) := fun h => by
        cases b with
        | none =>
          intro y hy hh
          rcases List.mem_append.mp hy with z | z
          · exact ih y z hh
          · rw [List.mem_singleton.mp z] at hh ⊢; exact h hh
        | some q =>
          obtain ⟨x, w⟩ := q
          obtain ⟨h1, h2, h3, h4⟩ := ih
          refine ⟨List.mem_append.mpr (.inl h1), h2, h3, fun y hy hh u hu => ?_⟩
          rcases List.mem_append.mp hy with z | z
          · exact h4 y z hh u hu
          · rw [List.mem_singleton.mp z] at hh hu; rw [h hh] at hu; cases hu
      by_cases c : s.here n = true
      · rw [if_pos c]
        cases e : s.whenTable.getD n none with
        | none => exact keep fun _ => e
        | some w =>
          cases b with
          | none =>
            refine ⟨List.mem_append.mpr (.inr (List.mem_singleton.mpr rfl)), c, e, fun y hy hh u hu => ?_⟩
            rcases List.mem_append.mp hy with z | z
            · rw [ih y z hh] at hu; cases hu
            · rw [List.mem_singleton.mp z, e] at hu; cases hu; rw [List.mem_singleton.mp z]; exact .inr ⟨rfl, Nat.le_refl _⟩
          | some q =>
            obtain ⟨x, w'⟩ := q
            obtain ⟨h1, h2, h3, h4⟩ := ih
            show Least s (if w < w' then some (n, w) else some (x, w')) _
            by_cases d : w < w'
            · rw [if_pos d]
              refine ⟨List.mem_append.mpr (.inr (List.mem_singleton.mpr rfl)), c, e, fun y hy hh u hu => ?_⟩
              rcases List.mem_append.mp hy with z | z
              · rcases h4 y z hh u hu with q | q <;> left <;> omega
              · rw [List.mem_singleton.mp z, e] at hu; cases hu; rw [List.mem_singleton.mp z]; exact .inr ⟨rfl, Nat.le_refl _⟩
            · rw [if_neg d]
              refine ⟨List.mem_append.mpr (.inl h1), h2, h3, fun y hy hh u hu => ?_⟩
              rcases List.mem_append.mp hy with z | z
              · exact h4 y z hh u hu
              · rw [List.mem_singleton.mp z, e] at hu
                cases hu
                rw [List.mem_singleton.mp z]
                have := List.mem_range.mp h1
                rcases Nat.lt_or_ge w' w with q | q
                · exact .inl q
                · exact .inr ⟨by omega, by omega⟩
      · rw [if_neg c]
        exact keep fun z => absurd z c
  exact key s.things.length
/-- it's this one if it's the least -/
theorem next_some {s : State} {x w : Nat} (h1 : s.here x = true) (h2 : IsWhen s x (some w)) (h3 : ∀ y u, s.here y = true → IsWhen s y (some u) → w < u ∨ (w = u ∧ x ≤ y)) : s.next = some (x, w) := by
  have L := next_least s
  have tx := (table_is (here_lt h1)).unique h2
  cases e : s.next with
  | none =>
    rw [e] at L
    rw [L x (List.mem_range.mpr (here_lt h1)) h1] at tx
    cases tx
  | some q =>
    obtain ⟨x', w'⟩ := q
    rw [e] at L
    obtain ⟨_, g2, g3, g4⟩ := L
    have a := g4 x (List.mem_range.mpr (here_lt h1)) h1 w tx
    have b := h3 x' w' g2 (by rw [← g3]; exact table_is (here_lt g2))
    have e1 : w' = w := by omega
    have e2 : x' = x := by omega
    rw [e1, e2]
theorem next_none {s : State} (h : ∀ x w, s.here x = true → ¬ IsWhen s x (some w)) : s.next = none := by
  have L := next_least s
  cases e : s.next with
  | none => rfl
  | some q =>
    obtain ⟨x', w'⟩ := q
    rw [e] at L
    obtain ⟨_, g2, g3, _⟩ := L
    exact absurd (by rw [← g3]; exact table_is (here_lt g2)) (h x' w' g2)
end KM

set_option Elab.async false
set_option linter.all false
set_option autoImplicit false
namespace KP
/-! ### rows and calls, by places -/
theorem row_some {l x t : List Int} (h : PyFlat.row l = some (x, t)) : ∃ n : Nat, ∃ r, l = (n : Int) :: r ∧ n ≤ r.length ∧ x = r.take n ∧ t = r.drop n := by
  cases l with
  | nil => cases h
  | cons a r =>
    have h' : (if 0 ≤ a ∧ a.toNat ≤ r.length then some (r.take a.toNat, r.drop a.toNat) else none) = some (x, t) := h
    split at h'
    · rename_i c
      cases h'
      refine ⟨a.toNat, r, ?_, c.2, rfl, rfl⟩
      rw [Int.toNat_of_nonneg c.1]
    · cases h'
theorem rows_succ {k : Nat} {l t : List Int} {xs : List (List Int)} (h : PyFlat.rows (k + 1) l = some (xs, t)) : ∃ x s ys, PyFlat.row l = some (x, s) ∧ PyFlat.rows k s = some (ys, t) ∧ xs = x :: ys := by
  unfold PyFlat.rows at h
  split at h
  · cases h
  · rename_i x s e
    split at h
    · cases h
    · rename_i ys t' e2
      cases h
      exact ⟨x, s, ys, e, e2, rfl⟩
/-- how many numbers rows take -/
def took (xs : List (List Int)) : Nat := (xs.map fun x => 1 + x.length).sum
theorem rows_took : ∀ (k : Nat) (l t : List Int) (xs : List (List Int)), PyFlat.rows k l = some (xs, t) → t = l.drop (took xs) ∧ xs.length = k ∧ took xs ≤ l.length
  | 0, l, t, xs, h => by
    cases h
    exact ⟨rfl, rfl, Nat.zero_le _⟩
  | k + 1, l, t, xs, h => by
    obtain ⟨x, s, ys, h1, h2, rfl⟩ := rows_succ h
    obtain ⟨n, r, rfl, hn, rfl, rfl⟩ := row_some h1
    obtain ⟨e1, e2, e3⟩ := rows_took k _ _ _ h2
    have el : (r.take n).length = n := by rw [List.length_take]; omega
    have et : took (r.take n :: ys) = 1 + n + took ys := by
      unfold took
      rw [List.map_cons, List.sum_cons, el]
    rw [List.length_drop] at e3
    refine ⟨?_, by rw [List.length_cons, e2], by rw [et, List.length_cons]; omega⟩
    rw [et, e1, List.drop_drop, show 1 + n + took ys = (n + took ys) + 1 by omega, List.drop_succ_cons]
theorem call_some {shape : Int → Option (Nat × Nat)} {l t : List Int} {c : List (List Int)} (h : PyFlat.call shape l = some (c, t)) : ∃ p r n k xs, l = p :: r ∧ shape p = some (n, k) ∧ n ≤ r.length ∧ PyFlat.rows k (r.drop n) = some (xs, t) ∧ c = (p :: r.take n) :: xs := by
  cases l with
  | nil => cases h
  | cons p r =>
    have h' : (match shape p with
      | none => none
      | some (n, k) => if r.length < n then none else match PyFlat.rows k (r.drop n) with
        | none => none
        | some (xs, t) => some ((p :: r.take n) :: xs, t)) = some (c, t) := h
    cases e : shape p with
    | none => rw [e] at h'; cases h'
    | some nk =>
      obtain ⟨n, k⟩ := nk
      rw [e] at h'
      dsimp only at h'
      by_cases c1 : r.length < n
      · rw [if_pos c1] at h'; cases h'
      · rw [if_neg c1] at h'
        cases e2 : PyFlat.rows k (r.drop n) with
        | none => rw [e2] at h'; cases h'
        | some q =>
          obtain ⟨xs, t'⟩ := q
          rw [e2] at h'
          cases h'
          exact ⟨p, r, n, k, xs, rfl, e, by omega, e2, rfl⟩
theorem calls_cons {shape : Int → Option (Nat × Nat)} {f : Nat} {p : Int} {r : List Int} {cs : List (List (List Int))} (h : PyFlat.calls shape f (p :: r) = some cs) : ∃ f' c t cs', PyFlat.call shape (p :: r) = some (c, t) ∧ PyFlat.calls shape f' t = some cs' ∧ cs = c :: cs' := by
  cases f with
  | zero => cases h
  | succ f =>
    unfold PyFlat.calls at h
    split at h
    · cases h
    · rename_i c t e
      split at h
      · cases h
      · rename_i cs' e2
        cases h
        exact ⟨f, c, t, cs', e, e2, rfl⟩
theorem calls_nil {shape : Int → Option (Nat × Nat)} {f : Nat} {cs : List (List (List Int))} (h : PyFlat.calls shape f [] = some cs) : cs = [] := by
  cases f with
  | zero => cases h; rfl
  | succ f => cases h; rfl
/-- one call at a place of the list: its number, its whole numbers, its rows, the place behind it -/
theorem call_at {shape : Int → Option (Nat × Nat)} {f at_ : Nat} {ns : List Int} {cs : List (List (List Int))} (h : PyFlat.calls shape f (ns.drop at_) = some cs) (hl : at_ < ns.length) :
    ∃ p n k xs f' cs', ns[at_]? = some p ∧ shape p = some (n, k) ∧ at_ + 1 + n ≤ ns.length ∧ (∃ t, PyFlat.rows k (ns.drop (at_ + 1 + n)) = some (xs, t)) ∧ xs.length = k ∧ at_ + 1 + n + took xs ≤ ns.length ∧
      PyFlat.calls shape f' (ns.drop (at_ + 1 + n + took xs)) = some cs' ∧ cs = ((p :: (ns.drop (at_ + 1)).take n) :: xs) :: cs' := by
  have e0 : ns.drop at_ = ns[at_] :: ns.drop (at_ + 1) := List.drop_eq_getElem_cons hl
  rw [e0] at h
  obtain ⟨f', c, t, cs', h1, h2, rfl⟩ := calls_cons h
  obtain ⟨p, r, n, k, xs, e1, h3, h4, h5, rfl⟩ := call_some h1
  cases e1
  rw [List.length_drop] at h4
  rw [List.drop_drop] at h5
  obtain ⟨e2, e3, e4⟩ := rows_took _ _ _ _ h5
  rw [List.length_drop] at e4
  rw [e2, List.drop_drop] at h2
  exact ⟨ns[at_], n, k, xs, f', cs', List.getElem?_eq_getElem hl, h3, by omega, ⟨t, h5⟩, e3, by omega, h2, rfl⟩
end KP

set_option Elab.async false
set_option linter.all false
set_option maxRecDepth 100000
/-! THE HAND LAYER, for ints, bools, texts, own classes, lists, tuples, dicts, comprehensions, walks over dicts, enumerate, zip, reversed, texts, calls, loops. Paste it whole ahead of your own text; what your proof does not reach may be deleted. -/
namespace L2
open PySem PySem.Spec PyProof.Rows
/-- a key: an int or a str -/
abbrev Key := Sum Int Str
def keyIs : Key → Value → Bool
  | .inl k, v => Value.isInt k v
  | .inr x, v => Value.isStrOf x v
def keyH (w : World) : Key → Int
  | .inl k => hashInt k
  | .inr x => hashStr w x
theorem keyIs_shape : ∀ {k : Key} {v : Value}, keyIs k v = true → (∃ i t, k = Sum.inl i ∧ v = Value.int i t) ∨ (∃ x t, k = Sum.inr x ∧ v = Value.str x t)
  | .inl i, v, h => by
    obtain ⟨t, e⟩ := Value.isInt_shape (k := i) (v := v) h
    exact .inl ⟨i, t, rfl, e⟩
  | .inr x, v, h => by
    obtain ⟨t, e⟩ := Value.isStrOf_shape (x := x) (v := v) h
    exact .inr ⟨x, t, rfl, e⟩
theorem keyIs_int (i : Int) (t : Tok) : keyIs (.inl i) (.int i t) = true := by simp [keyIs, Value.isInt]
theorem keyIs_str (x : Str) (t : Tok) : keyIs (.inr x) (.str x t) = true := by simp [keyIs, Value.isStrOf]
theorem key_ll (a b : Int) : decide ((Sum.inl a : Key) = Sum.inl b) = (a == b) := by
  by_cases e : a = b
  · subst e; simp
  · have h : ¬ (Sum.inl a : Key) = Sum.inl b := fun q => e (Sum.inl.inj q)
    rw [decide_eq_false h]
    exact (beq_eq_false_iff_ne.mpr e).symm
theorem key_rr (a b : Str) : decide ((Sum.inr a : Key) = Sum.inr b) = decide (a = b) := by
  by_cases e : a = b
  · subst e; simp
  · have h : ¬ (Sum.inr a : Key) = Sum.inr b := fun q => e (Sum.inr.inj q)
    rw [decide_eq_false h, decide_eq_false e]
theorem key_lr (a : Int) (b : Str) : decide ((Sum.inl a : Key) = Sum.inr b) = false := decide_eq_false (fun q => nomatch q)
theorem key_rl (a : Str) (b : Int) : decide ((Sum.inr a : Key) = Sum.inl b) = false := decide_eq_false (fun q => nomatch q)
def mixKind (prog : Program) (w : World) : PySem.KeyKind prog w Key where
  is := keyIs
  hash := keyH w
  inj := fun v a b ha hb => by
    rcases keyIs_shape ha with ⟨i, t, rfl, rfl⟩ | ⟨x, t, rfl, rfl⟩
    · rcases keyIs_shape hb with ⟨j, u, rfl, e⟩ | ⟨y, u, rfl, e⟩
      · injection e with e1 _; rw [e1]
      · exact nomatch e
    · rcases keyIs_shape hb with ⟨j, u, rfl, e⟩ | ⟨y, u, rfl, e⟩
      · exact nomatch e
      · injection e with e1 _; rw [e1]
  byValue := fun k v h => by
    rcases keyIs_shape h with ⟨i, t, rfl, rfl⟩ | ⟨x, t, rfl, rfl⟩ <;> rfl
  pyHash := fun hv h => by
    rcases keyIs_shape hv with ⟨i, t, rfl, rfl⟩ | ⟨x, t, rfl, rfl⟩
    · exact wpAny_pyHash_int h
    · exact wpAny_pyHash_str h
  eqBool := fun hu hv h => by
    rcases keyIs_shape hu with ⟨i, t, rfl, rfl⟩ | ⟨x, t, rfl, rfl⟩
    · rcases keyIs_shape hv with ⟨j, u, rfl, rfl⟩ | ⟨y, u, rfl, rfl⟩
      · rw [key_ll] at h; exact wpAny_eqBool_int h
      · rw [key_lr] at h; exact SeqAt.EqAt.int_str i t y u _ _ _ _ h
    · rcases keyIs_shape hv with ⟨j, u, rfl, rfl⟩ | ⟨y, u, rfl, rfl⟩
      · rw [key_rl] at h; exact SeqAt.EqAt.str_int x t j u _ _ _ _ h
      · rw [key_rr] at h; exact wpAny_eqBool_str h
  «strs» := fun k x t v h => by
    rcases keyIs_shape h with ⟨i, u, rfl, e⟩ | ⟨y, u, rfl, e⟩
    · exact nomatch e
    · injection e with e1 _
      subst e1
      cases v <;> rfl
theorem mixKind_int (prog : Program) (w : World) (i : Int) (t : Tok) : (mixKind prog w).is (.inl i) (.int i t) = true := keyIs_int i t
theorem mixKind_str (prog : Program) (w : World) (x : Str) (t : Tok) : (mixKind prog w).is (.inr x) (.str x t) = true := keyIs_str x t
end L2
namespace L2
open PySem PySem.Spec PyProof.Rows
/-- a value, without the heap -/
inductive V where
  | non | bl (b : Bool) | int (i : Int) | str (x : Str) | byt (b : Array UInt8) | flt (b : UInt64) | ref (a : Addr) | ty (n : String)
  deriving DecidableEq
def RelV : V → Value → Prop
  | .non, u => u = Value.none
  | .bl b, u => u = Value.bool b
  | .int i, u => ∃ t, u = Value.int i t
  | .str x, u => ∃ t, u = Value.str x t
  | .byt b, u => ∃ t, u = Value.bytes b t
  | .flt b, u => ∃ t, u = Value.float b t
  | .ref a, u => u = Value.ref a
  | .ty n, u => u = Value.type n
abbrev Vals : List V → List Value → Prop := Paired RelV
theorem Vals.length {xs : List V} {us : List Value} (r : Vals xs us) : xs.length = us.length := Paired.length r
theorem Vals.get : ∀ {xs : List V} {us : List Value} {i : Nat} {x : V}, Vals xs us → xs[i]? = some x → ∃ u, us[i]? = some u ∧ RelV x u
  | _, _, _, _, .nil, e => by simp at e
  | _, _, 0, _, .cons r _, e => by simp at e; subst e; exact ⟨_, rfl, r⟩
  | _, _, i + 1, x, .cons _ t, e => by
    obtain ⟨u, h1, h2⟩ := Vals.get (i := i) (x := x) t (by simpa using e)
    exact ⟨u, by simpa using h1, h2⟩
theorem Vals.append : ∀ {xs ys : List V} {us ws : List Value}, Vals xs us → Vals ys ws → Vals (xs ++ ys) (us ++ ws)
  | _, _, _, _, .nil, s => s
  | _, _, _, _, .cons r t, s => .cons r (Vals.append t s)
theorem Vals.take : ∀ {xs : List V} {us : List Value} (n : Nat), Vals xs us → Vals (xs.take n) (us.take n)
  | _, _, 0, _ => .nil
  | _, _, _ + 1, .nil => .nil
  | _, _, n + 1, .cons r t => .cons r (Vals.take n t)
theorem Vals.drop : ∀ {xs : List V} {us : List Value} (n : Nat), Vals xs us → Vals (xs.drop n) (us.drop n)
  | _, _, 0, r => r
  | _, _, _ + 1, .nil => .nil
  | _, _, n + 1, .cons _ t => Vals.drop n t
def RelO : Option V → Option Value → Prop
  | some v, some u => RelV v u
  | none, none => True
  | _, _ => False
def KV {κ : Type} : List (κ × V) → List (κ × Value) → Prop := Paired fun (p : κ × V) (q : κ × Value) => p.1 = q.1 ∧ RelV p.2 q.2
/-- a key of a dict (00_mix): an int or a text -/
def kV : Key → V
  | .inl i => .int i
  | .inr x => .str x
/-- what stands at a tracked address -/
inductive HO where
  /-- a list -/
  | lst (xs : List V)
  /-- a tuple (never changes) -/
  | tup (xs : List V)
  /-- a dict whose keys are ints and texts; one whose keys are tuples of ints and texts (the empty one is both) -/
  | dK (kvs : List (Key × V)) | dT (kvs : List (List Key × V))
  /-- a set of ints: its members, its size -/
  | set (S : Int → Bool) (n : Nat)
  /-- an instance of the class at C, its dict at dx, its attributes -/
  | ins (C dx : Addr) (fs : List (Str × V))
  /-- the dict of the instance at x -/
  | own (x : Addr)
  /-- the dict of an exception -/
  | xd (fs : List (Str × V))
  /-- a bound method, f of x -/
  | met (f x : Addr)
  /-- a range object lo, lo + 1, .. below hi -/
  | rng (lo hi : Int)
  /-- a thing that is known to the object (the script; a dict while a loop walks it): read, never written while it is so -/
  | frz (o : Obj) (u : HO)
  /-- a code object's table -/
  | tbl (ps : Array Value)
  /-- any other thing, by what is true of its one object (a def of one's own: SetO a S n := HO.ext fun h => ..) -/
  | ext (φ : Heap → Prop)
abbrev Hp := Addr → Option HO
def upd (H : Hp) (a : Addr) (o : HO) : Hp := fun b => if b = a then some o else H b
theorem upd_same {H : Hp} {a : Addr} {o : HO} : upd H a o a = some o := by unfold upd; rw [if_pos rfl]
theorem upd_ne {H : Hp} {a b : Addr} {o : HO} (h : b ≠ a) : upd H a o b = H b := by unfold upd; rw [if_neg h]
theorem upd_upd {H : Hp} {a : Addr} {o u : HO} : upd (upd H a o) a u = upd H a u := by
  funext b; unfold upd; split <;> rfl
/-- two objects of different content stand apart -/
theorem ne_of {H : Hp} {a b : Addr} {o u : HO} (h : H a = some o) (h' : H b = some u) (d : o ≠ u) : a ≠ b := by
  intro e; subst e; rw [h] at h'; exact d (Option.some.inj h')
theorem ne_of_none {H : Hp} {a b : Addr} {o : HO} (h : H a = some o) (h' : H b = none) : a ≠ b := by
  intro e; subst e; rw [h] at h'; cases h'
section
variable (P : Program) (w : World)
def ObjOk (H : Hp) (h : Heap) (a : Addr) : HO → Prop
  | .lst xs => xs.length ≤ sizeLine ∧ ∃ (its : List Value) (n : Nat), Vals xs its ∧ h.get? a = some { cls := .type "list", data := .seq its.toArray n }
  | .tup xs => xs.length ≤ sizeLine ∧ ∃ its : List Value, Vals xs its ∧ IsTup h a its.toArray
  | .dK kvs => kvs.length ≤ sizeLine ∧ (a == sysModules) = false ∧ ∃ vs, KV kvs vs ∧ h.DictOf (mixKind P w) a vs
  | .dT kvs => kvs.length ≤ sizeLine ∧ (a == sysModules) = false ∧ ∃ xs : List (List Key × Addr × Value),
      Paired (fun (p : List Key × V) (q : List Key × Addr × Value) => p.1 = q.1 ∧ H q.2.1 = some (.tup (p.1.map kV)) ∧ RelV p.2 q.2.2) kvs xs ∧
      ∃ o es ep, h.get? a = some o ∧ o.ExactDict ∧ o.data = .dict es ep ∧ es.toList = xs.map (entryOfKey (tupleKind (mixKind P w))) ∧ (xs.map (·.1)).Nodup
  | .set S n => h.SetOf (intKind P w) a S n
  | .ins C dx fs => H dx = some (.own a) ∧ fs.length ≤ 1000 ∧ dx ≠ a ∧ h.get? a = some (PySem.W.instObj C dx) ∧
      ∃ mA, h.Ns1 dx mA ∧ (∀ f, RelO (fs.lookup f) (mA f)) ∧ PySem.Within mA (fs.map (·.1))
  | .own _ => ∃ o, h.get? a = some o
  | .xd fs => ∃ mA, h.Ns1 a mA ∧ ∀ f, RelO (fs.lookup f) (mA f)
  | .rng lo hi => ∃ t u v, h.get? a = some { cls := .type "range", data := .fields #[.int lo t, .int hi u, .int 1 v] }
  | .frz o u => h.get? a = some o ∧ ObjOk H h a u
  | .tbl ps => h.get? a = some { cls := .none, data := .fields ps }
  | .met f x => h.get? a = some (PySem.W.methodObj (.ref f) (.ref x))
  | .ext φ => φ h ∧ (∃ o, h.get? a = some o) ∧ ∀ h1 h2 : Heap, φ h1 → (∀ o, h1.get? a = some o → h2.get? a = some o) → φ h2
/-- the abstract heap is held -/
def HOk (H : Hp) (h : Heap) : Prop := ∀ a o, H a = some o → ObjOk P w H h a o
end
section
variable {P : Program} {w : World} {H H' : Hp} {h h' : Heap} {a : Addr} {o : HO}
theorem ObjOk.lt (x : ObjOk P w H h a o) : a < h.objs.size := by
  cases o with
  | lst xs => obtain ⟨_, _, _, _, e⟩ := x; exact Heap.lt_size e
  | tup xs => obtain ⟨_, _, _, p⟩ := x; exact p.lt
  | dK kvs => obtain ⟨_, _, _, _, o, _, _, e, _⟩ := x; exact Heap.lt_size e
  | dT kvs => obtain ⟨_, _, _, _, o, _, _, e, _⟩ := x; exact Heap.lt_size e
  | set S n => obtain ⟨o, _, _, _, e, _⟩ := x; exact Heap.lt_size e
  | ins C dx fs => obtain ⟨_, _, _, e, _⟩ := x; exact Heap.lt_size e
  | own y => obtain ⟨_, e⟩ := x; exact Heap.lt_size e
  | xd fs => obtain ⟨_, ⟨_, _, _, e, _⟩, _⟩ := x; exact Heap.lt_size e
  | rng lo hi => obtain ⟨_, _, _, e⟩ := x; exact Heap.lt_size e
  | frz ob u => obtain ⟨e, _⟩ := x; exact Heap.lt_size e
  | tbl ps => exact Heap.lt_size (show h.get? a = some _ from x)
  | met f y => exact Heap.lt_size (show h.get? a = some _ from x)
  | ext φ => obtain ⟨_, ⟨_, e⟩, _⟩ := x; exact Heap.lt_size e
theorem Paired.mapP {α β : Type} {F G : α → β → Prop} : ∀ {l₁ : List α} {l₂ : List β}, Paired F l₁ l₂ → (∀ a b, F a b → G a b) → Paired G l₁ l₂
  | _, _, .nil, _ => .nil
  | _, _, .cons r t, f => .cons (f _ _ r) (Paired.mapP t f)
/-- what an object's description leans on: its own object, its own dict, the tuples -/
theorem ObjOk.stay (x : ObjOk P w H h a o) (k : ∀ b u, (b = a ∨ H b = some (.own a)) → h.get? b = some u → h'.get? b = some u)
    (ho : ∀ b, H b = some (.own a) → H' b = some (.own a)) (ht : ∀ b xs, H b = some (.tup xs) → H' b = some (.tup xs)) : ObjOk P w H' h' a o := by
  induction o with
  | lst xs => obtain ⟨z, its, n, r, e⟩ := x; exact ⟨z, its, n, r, k _ _ (.inl rfl) e⟩
  | tup xs => obtain ⟨z, its, r, ob, e, c⟩ := x; exact ⟨z, its, r, ob, k _ _ (.inl rfl) e, c⟩
  | dK kvs => obtain ⟨z, y, vs, r, ob, es, ep, e, c⟩ := x; exact ⟨z, y, vs, r, ob, es, ep, k _ _ (.inl rfl) e, c⟩
  | dT kvs =>
    obtain ⟨z, y, xs, r, ob, es, ep, e, c⟩ := x
    exact ⟨z, y, xs, Paired.mapP r fun p q z => ⟨z.1, ht _ _ z.2.1, z.2.2⟩, ob, es, ep, k _ _ (.inl rfl) e, c⟩
  | set S n => obtain ⟨ob, es, ep, t, e, c⟩ := x; exact ⟨ob, es, ep, t, k _ _ (.inl rfl) e, c⟩
  | ins C dx fs =>
    obtain ⟨d, z, ne, e, mA, ⟨od, es, ep, e2, c⟩, r⟩ := x
    exact ⟨ho _ d, z, ne, k _ _ (.inl rfl) e, mA, ⟨od, es, ep, k _ _ (.inr d) e2, c⟩, r⟩
  | own y => obtain ⟨ob, e⟩ := x; exact ⟨ob, k _ _ (.inl rfl) e⟩
  | xd fs => obtain ⟨mA, ⟨od, es, ep, e, c⟩, r⟩ := x; exact ⟨mA, ⟨od, es, ep, k _ _ (.inl rfl) e, c⟩, r⟩
  | rng lo hi => obtain ⟨t, u, v, e⟩ := x; exact ⟨t, u, v, k _ _ (.inl rfl) e⟩
  | frz ob u ih => obtain ⟨e, q⟩ := x; exact ⟨k _ _ (.inl rfl) e, ih q⟩
  | tbl ps =>
    have e : h.get? a = some { cls := .none, data := .fields ps } := x
    show h'.get? a = some { cls := .none, data := .fields ps }
    exact k a _ (.inl rfl) e
  | met f y =>
    have e : h.get? a = some (PySem.W.methodObj (.ref f) (.ref y)) := x
    show h'.get? a = some (PySem.W.methodObj (.ref f) (.ref y))
    exact k a _ (.inl rfl) e
  | ext φ => obtain ⟨p, ⟨o, e⟩, st⟩ := x; exact ⟨st _ _ p fun o q => k _ _ (.inl rfl) q, ⟨o, k _ _ (.inl rfl) e⟩, st⟩
theorem HOk.lt (x : HOk P w H h) (e : H a = some o) : a < h.objs.size := (x a o e).lt
theorem HOk.fresh (x : HOk P w H h) (e : h.objs.size ≤ a) : H a = none := by
  cases q : H a with
  | none => rfl
  | some u => exact absurd (Nat.lt_of_lt_of_le (x.lt q) e) (Nat.lt_irrefl _)
/-- every object of the heap is kept -/
theorem HOk.kept (x : HOk P w H h) (k : ∀ b u, h.get? b = some u → h'.get? b = some u) : HOk P w H h' := fun a o e =>
  (x a o e).stay (fun b u _ q => k b u q) (fun _ q => q) fun _ _ q => q
/-- a new object is laid and tracked -/
theorem HOk.laid (x : HOk P w H h) (k : ∀ b u, h.get? b = some u → h'.get? b = some u) (hp : h.objs.size ≤ a) (new : ObjOk P w (upd H a o) h' a o) : HOk P w (upd H a o) h' := fun b u e => by
  have hn := x.fresh hp
  by_cases hb : b = a
  · subst hb; rw [upd_same] at e; cases e; exact new
  · rw [upd_ne hb] at e
    exact (x b u e).stay (fun c v _ q => k c v q) (fun c q => by rw [upd_ne (ne_of_none q hn)]; exact q) fun c xs q => by rw [upd_ne (ne_of_none q hn)]; exact q
end
/-- what may be read as u: it is u, or a known u -/
def Rd (H : Hp) (a : Addr) (u : HO) : Prop := H a = some u ∨ ∃ o, H a = some (.frz o u)
theorem Rd.ok {P : Program} {w : World} {H : Hp} {h : Heap} {a : Addr} {u : HO} (r : Rd H a u) (x : HOk P w H h) : ObjOk P w H h a u := by
  rcases r with r | ⟨o, r⟩
  · exact x a u r
  · obtain ⟨_, q⟩ := x a _ r
    exact q
/-- what may be written -/
def Mut : Option HO → Prop
  | some (.lst _) => True
  | some (.dK _) => True
  | some (.dT _) => True
  | some (.set _ _) => True
  | some (.ins _ _ _) => True
  | some (.ext _) => True
  | _ => False
section
variable {P : Program} {w : World} {H : Hp} {h h' : Heap} {x e : Addr} {o' : HO}
/-- the object at e is changed: x itself, or the dict of the instance x -/
theorem HOk.write (ok : HOk P w H h) (mu : Mut (H x)) (he : e = x ∨ H e = some (.own x)) (k : ∀ b u, b ≠ e → h.get? b = some u → h'.get? b = some u) (heo : ∃ u, h'.get? e = some u)
    (new : ObjOk P w (upd H x o') h' x o') : HOk P w (upd H x o') h' := fun b u q => by
  have nown : ∀ c y, H c = some (.own y) → c ≠ x := fun c y r z => by subst z; rw [r] at mu; exact mu
  have ntup : ∀ c xs, H c = some (.tup xs) → c ≠ x := fun c xs r z => by subst z; rw [r] at mu; exact mu
  by_cases hb : b = x
  · subst hb; rw [upd_same] at q; cases q; exact new
  · rw [upd_ne hb] at q
    by_cases hbe : b = e
    · have q' : H b = some (.own x) := by
        rcases he with z | z
        · exact absurd (hbe.trans z) hb
        · rw [hbe]; exact z
      rw [q] at q'; cases q'
      obtain ⟨v, hv⟩ := heo
      exact ⟨v, by rw [hbe]; exact hv⟩
    · refine (ok b u q).stay (fun c v hc r => k c v ?_ r) (fun c r => by rw [upd_ne (nown c b r)]; exact r) fun c xs r => by rw [upd_ne (ntup c xs r)]; exact r
      rcases hc with rfl | hc
      · exact hbe
      · rintro rfl
        rcases he with z | z
        · exact nown c b hc z
        · rw [hc] at z; cases z; exact hb rfl
end
/-! ### kept unless tracked; of the frames at fs (the callers') the slots may change (an exception that passes writes there); of the records at ex (iterators) nothing is said -/
structure Un (fs ex : List Addr) (H H' : Hp) (h h' : Heap) : Prop where
  keep : ∀ b o, h.get? b = some o → H b = none → b ∉ fs → b ∉ ex → h'.get? b = some o
  slot : ∀ b o, h.get? b = some o → H b = none → b ∈ fs → b ∉ ex → ∃ sl, h'.get? b = some { o with slots := sl }
  free : ∀ b o, h.get? b = some o → H b = none → b ∉ ex → H' b = none
  there : ∀ b o, h.get? b = some o → b ∉ ex → ∃ o', h'.get? b = some o'
  tups : ∀ b xs, H b = some (.tup xs) → H' b = some (.tup xs)
  frzs : ∀ b o u, H b = some (.frz o u) → H' b = some (.frz o u)
  tbls : ∀ b ps, H b = some (.tbl ps) → ∃ more, H' b = some (.tbl (ps ++ more))
section
variable {fs fs' ex ex' : List Addr} {H H1 H2 : Hp} {h h1 h2 h' : Heap} {a x e : Addr} {o : HO}
theorem Un.any (u : Un fs ex H H1 h h1) {b : Addr} {ob : Obj} (q : h.get? b = some ob) (n : H b = none) (hx : b ∉ ex) : ∃ sl, h1.get? b = some { ob with slots := sl } := by
  by_cases hb : b ∈ fs
  · exact u.slot b ob q n hb hx
  · exact ⟨ob.slots, u.keep b ob q n hb hx⟩
theorem Un.kept (k : ∀ b u, h.get? b = some u → h'.get? b = some u) : Un fs ex H H h h' :=
  ⟨fun b ob q _ _ _ => k b ob q, fun b ob q _ _ _ => ⟨ob.slots, k b ob q⟩, fun _ _ _ n _ => n, fun b ob q _ => ⟨ob, k b ob q⟩, fun _ _ q => q, fun _ _ _ q => q, fun _ ps q => ⟨#[], by rw [q]; simp⟩⟩
theorem Un.refl : Un fs ex H H h h := Un.kept fun _ _ q => q
theorem Un.laid (k : ∀ b u, h.get? b = some u → h'.get? b = some u) (hp : h.objs.size ≤ a) (hn : H a = none) : Un fs ex H (upd H a o) h h' where
  keep := fun b u q _ _ _ => k b u q
  slot := fun b u q _ _ _ => ⟨u.slots, k b u q⟩
  free := fun b u q n _ => by rw [upd_ne (Nat.ne_of_lt (Nat.lt_of_lt_of_le (Heap.lt_size q) hp))]; exact n
  there := fun b u q _ => ⟨u, k b u q⟩
  tups := fun b xs q => by rw [upd_ne (ne_of_none q hn)]; exact q
  frzs := fun b u xs q => by rw [upd_ne (ne_of_none q hn)]; exact q
  tbls := fun b ps q => ⟨#[], by rw [upd_ne (ne_of_none q hn), q]; simp⟩
theorem Un.write (mu : Mut (H x)) (he : e = x ∨ H e = some (.own x)) (k : ∀ b u, b ≠ e → h.get? b = some u → h'.get? b = some u) (heo : ∃ u, h'.get? e = some u) : Un fs ex H (upd H x o) h h' := by
  have hx : ∀ b, H b = none → b ≠ x := fun b n z => by subst z; rw [n] at mu; exact mu
  have hb : ∀ b, H b = none → b ≠ e := fun b n z => by
    subst z
    rcases he with r | r
    · exact hx b n r
    · rw [n] at r; cases r
  have hm : ∀ b u, H b = some u → ¬ Mut (some u) → b ≠ x := fun b u q nm z => by subst z; rw [q] at mu; exact nm mu
  refine ⟨fun b u q n _ _ => k b u (hb b n) q, fun b u q n _ _ => ⟨u.slots, k b u (hb b n) q⟩, fun b u q n _ => by rw [upd_ne (hx b n)]; exact n, fun b u q _ => ?_,
    fun b xs q => by rw [upd_ne (hm b _ q fun z => z)]; exact q, fun b u xs q => by rw [upd_ne (hm b _ q fun z => z)]; exact q, fun b ps q => ⟨#[], by rw [upd_ne (hm b _ q fun z => z), q]; simp⟩⟩
  by_cases hbe : b = e
  · subst hbe; exact heo
  · exact ⟨u, k b u hbe q⟩
end
/-! ### the heap without what is tracked -/
def trk (h : Heap) (H : Hp) : List Addr := (List.range h.objs.size).filter fun a => (H a).isSome
def hidT (h : Heap) (H : Hp) : Heap := PySem.W.hideAll h (trk h H)
theorem hidT_size (h : Heap) (H : Hp) : (hidT h H).objs.size = h.objs.size := PySem.W.hideAll_size _ _
theorem hidT_get {h : Heap} {H : Hp} {b : Addr} {o : Obj} (e : h.get? b = some o) (n : H b = none) : (hidT h H).get? b = some o :=
  PySem.W.hideAll_get _ e fun hm => by
    have q : (H b).isSome = true := (List.mem_filter.mp hm).2
    rw [n] at q; simp at q
theorem of_hidT {h : Heap} {H : Hp} {b : Addr} {o : Obj} (e : (hidT h H).get? b = some o) : h.get? b = some o ∧ H b = none := by
  have e' : h.get? b = some o := PySem.W.of_hideAll (trk h H) e
  refine ⟨e', ?_⟩
  cases q : H b with
  | none => rfl
  | some x =>
    have hm : b ∈ trk h H := List.mem_filter.mpr ⟨List.mem_range.mpr (Heap.lt_size e'), by simp [q]⟩
    have z : (hidT h H).get? b = none := PySem.W.hideAll_none (trk h H) hm
    rw [z] at e; cases e
/-! ### OpenK's ledger, filled with every new object but one -/
end L2
namespace L2
open PySem PySem.Spec PyProof.Rows
/-- the module's facts, over the base: the heap at the law's entry without what is tracked there -/
structure Mod (K : PySem.W.Frag) (mg : Str → Option Value) (base : Heap) : Prop where
  kin : K.In base
  glob : base.Ns mainGlobals mg
  blt : ∃ mb, base.Ns builtinsNs mb ∧ ∀ x : Str, x ≠ "__name__" → mb x = bootBuiltins x
  nolimit : base.NoLimit
/-- the context: a def's body (or a comprehension's block) running. base: fixed through the whole law; s₀, H₀: the entry; outer: the frames whose slots others may change (a def's callers); stack: all frames that run;
   ex: iterators that were made ahead of the entry and are walked here (a comprehension's); fn: the names whose cells were made at the entry (a def: all; a comprehension's block: its own); calm: not within an except suite; pn: pins that every state bears; xe: what is wanted of an exception that leaves the code -/
structure Cx where
  prog : Program
  w : World
  K : PySem.W.Frag
  mg : Str → Option Value
  base : Heap
  A : Around
  N : List Str
  s_0 : Shared
  H_0 : Hp
  env : Env
  outer : List Env
  stack : List Env
  ex : List Addr
  fn : Str → Bool
  calm : Bool
  pn : List (Addr × Obj)
  xe : Value → Shared → Prop
/-- the callers' frames -/
def frs (l : List Env) : List Addr := l.filterMap (·.frame)
abbrev Cx.fs (X : Cx) : List Addr := frs X.outer
def Vis (sc : Scope) (x : Str) : Prop := sc.names.lookup x = some .local ∨ sc.names.lookup x = some .cell ∨ sc.names.lookup x = some .free
def Loc (sc : Scope) (x : Str) : Prop := sc.names.lookup x = some .local ∨ sc.names.lookup x = some .cell
def Look (env : Env) (h : Heap) (m : Str → Option Value) (x : Str) (u : Value) : Prop :=
  (env.kindOf x = some .local ∧ m x = some u) ∨ ((env.kindOf x = some .cell ∨ env.kindOf x = some .free) ∧ ∃ c, env.cells.lookup x = some c ∧ h.IsCell c (some u))
structure Cx.Ok (X : Cx) : Prop where
  mod : Mod X.K X.mg X.base
  kind : X.env.scope.kind = .function
  glob : X.env.globals = mainGlobals
  blt : X.env.builtins = builtinsNs
  above : X.s_0.heap.objs.size ≤ X.env.locals
  inj : ∀ x y c, X.env.cells.lookup x = some c → X.env.cells.lookup y = some c → x = y
  has : ∀ x, (X.env.kindOf x = some .cell ∨ X.env.kindOf x = some .free) → ∃ c, X.env.cells.lookup x = some c
  cab : ∀ x c, X.fn x = true → X.env.cells.lookup x = some c → X.s_0.heap.objs.size ≤ c
  hd : X.calm = true → X.A.handled = none
  frames : X.A.frames = some X.stack
  stk : X.stack = X.outer ∨ (X.stack = X.env :: X.outer ∧ X.env.frame = some X.env.locals)
  exf : ∀ b ∈ X.ex, b ≠ X.env.locals ∧ ∀ x c, X.env.cells.lookup x = some c → c ≠ b
  bs : ∀ b o, X.base.get? b = some o → X.s_0.heap.get? b = some o ∧ X.H_0 b = none
  bsz : X.base.objs.size ≤ X.s_0.heap.objs.size
  noex : ∀ b o, X.base.get? b = some o → b ∉ X.ex
  exfs : ∀ b ∈ X.ex, b ∉ X.fs
  funs : X.s_0.heap.FunFrames X.base X.outer
  frf : ∀ b ∈ X.fs, X.H_0 b = none
structure Inv (X : Cx) (pins : List (Addr × Obj)) (σ : List (Option V)) (H : Hp) (s : Shared) : Prop where
  ok : X.Ok
  os : s.os = X.s_0.os
  bare : AllBare s.gens
  base : Un X.fs X.ex X.H_0 H X.s_0.heap s.heap
  loc : ∃ m, s.heap.Ns X.env.locals m ∧ ∀ (i : Nat) (x : Str) (v : V), X.N[i]? = some x → σ[i]? = some (some v) → Vis X.env.scope x → ∃ u, RelV v u ∧ Look X.env s.heap m x u
  cell : ∀ x c, X.env.cells.lookup x = some c → ∃ v, s.heap.IsCell c v
  free : H X.env.locals = none
  freeC : ∀ x c, X.env.cells.lookup x = some c → H c = none
  pin : ∀ p ∈ X.pn ++ pins, s.heap.get? p.1 = some p.2 ∧ H p.1 = none ∧ p.1 ≠ X.env.locals ∧ p.1 ∉ X.fs ∧ ∀ v, p.2.data ≠ .cell v
  hok : HOk X.prog X.w H s.heap
  len : σ.length = X.N.length
section
variable {X : Cx} {pins : List (Addr × Obj)} {σ : List (Option V)} {H H' : Hp} {s : Shared} {h' : Heap}
theorem Cx.Ok.nofr (ok : X.Ok) {b : Addr} {o : Obj} (e : X.base.get? b = some o) : b ∉ X.fs := fun hb => by
  have := (ok.funs.mem hb).1
  rw [e] at this; cases this
theorem Inv.bs (I : Inv X pins σ H s) : ∀ b o, X.base.get? b = some o → s.heap.get? b = some o ∧ H b = none := fun b o e =>
  ⟨I.base.keep b o (I.ok.bs b o e).1 (I.ok.bs b o e).2 (I.ok.nofr e) (I.ok.noex b o e), I.base.free b o (I.ok.bs b o e).1 (I.ok.bs b o e).2 (I.ok.noex b o e)⟩
theorem Inv.bk (I : Inv X pins σ H s) : ∀ b o, X.base.get? b = some o → s.heap.get? b = some o := fun b o e => (I.bs b o e).1
theorem Inv.mod (I : Inv X pins σ H s) : Mod X.K X.mg X.base := I.ok.mod
theorem Inv.kIn (I : Inv X pins σ H s) : X.K.In s.heap := I.ok.mod.kin.keeps I.bk
theorem Inv.nolimit (I : Inv X pins σ H s) : s.heap.NoLimit := I.ok.mod.nolimit.keeps I.bk
theorem Inv.lt (I : Inv X pins σ H s) : X.env.locals < s.heap.objs.size := let ⟨_, hn, _⟩ := I.loc; hn.lt
theorem Inv.sz (I : Inv X pins σ H s) : X.s_0.heap.objs.size ≤ s.heap.objs.size := Nat.le_trans I.ok.above (Nat.le_of_lt I.lt)
theorem Inv.nofs (I : Inv X pins σ H s) {a : Addr} (h : s.heap.objs.size ≤ a) : a ∉ X.fs := fun hb => by
  obtain ⟨_, o, ho, _⟩ := I.ok.funs.mem hb
  exact absurd (Nat.lt_of_lt_of_le (Heap.lt_size ho) (Nat.le_trans I.sz h)) (Nat.lt_irrefl _)
theorem Inv.cne (I : Inv X pins σ H s) : ∀ x c, X.env.cells.lookup x = some c → c ≠ X.env.locals := fun x c e z => by
  obtain ⟨v, o, ho, hd⟩ := I.cell x c e
  obtain ⟨m, ⟨o', es, ep, ho', hd', _⟩, _⟩ := I.loc
  rw [z, ho'] at ho; cases ho; rw [hd'] at hd; cases hd
theorem Inv.funs (I : Inv X pins σ H s) : s.heap.FunFrames X.base X.outer := by
  have all : ∀ (l : List Env), (∀ b ∈ frs l, b ∈ X.fs) → X.s_0.heap.FunFrames X.base l → s.heap.FunFrames X.base l := by
    intro l
    induction l with
    | nil => intro _ _; trivial
    | cons env r ih =>
      intro hs hl
      obtain ⟨hk, ⟨L, o, hf, hn, ho, hd⟩, hr⟩ := hl
      have hL : L ∈ X.fs := hs L (by unfold frs; rw [List.filterMap_cons, hf]; exact List.mem_cons_self)
      obtain ⟨sl, e⟩ := I.base.slot L o ho (I.ok.frf L hL) hL fun z => I.ok.exfs L z hL
      exact ⟨hk, ⟨L, _, hf, hn, e, hd⟩, ih (fun b hb => hs b (by unfold frs; rw [List.filterMap_cons, hf]; exact List.mem_cons_of_mem _ hb)) hr⟩
  exact all X.outer (fun _ hb => hb) I.ok.funs
/-- the frames that run, for a call -/
theorem Inv.stack (I : Inv X pins σ H s) : s.heap.FunFrames X.base X.stack := by
  rcases I.ok.stk with e | ⟨e, hf⟩
  · rw [e]; exact I.funs
  · rw [e]
    obtain ⟨m, hn, _⟩ := I.loc
    refine .cons (by rw [I.ok.kind]; decide) hf hn ?_ I.funs
    exact Heap.get?_none_of_le (Nat.le_trans I.ok.bsz I.ok.above)
theorem Inv.stkSub (I : Inv X pins σ H s) : ∀ b ∈ frs X.stack, b ∈ X.env.locals :: X.fs := fun b hb => by
  rcases I.ok.stk with e | ⟨e, hf⟩
  · rw [e] at hb; exact List.mem_cons_of_mem _ hb
  · rw [e] at hb
    unfold frs at hb
    rw [List.filterMap_cons, hf] at hb
    exact hb
theorem Inv.stkFree (I : Inv X pins σ H s) : ∀ b ∈ frs X.stack, H b = none := fun b hb => by
  rcases List.mem_cons.mp (I.stkSub b hb) with e | hb
  · rw [e]; exact I.free
  · obtain ⟨_, o, ho, _⟩ := I.ok.funs.mem hb
    exact I.base.free b o ho (I.ok.frf b hb) fun z => I.ok.exfs b z hb
/-- THE STEP: the untracked objects but the frame and the records at ch are kept (the callers' frames up to slots), the frame's map is kept, the new abstract heap is held -/
theorem Inv.step {g' : Array GenState} {t' : Nat} {d' : Drawn} {ch : List Addr} (I : Inv X pins σ H s)
    (hch : ∀ b ∈ ch, (b ∈ X.ex ∨ X.s_0.heap.objs.size ≤ b) ∧ b ≠ X.env.locals ∧ (∀ x c, X.env.cells.lookup x = some c → c ≠ b) ∧ ∀ p ∈ X.pn ++ pins, p.1 ≠ b)
    (keep : ∀ b o, b ≠ X.env.locals → b ∉ X.fs → b ∉ ch → s.heap.get? b = some o → H b = none → h'.get? b = some o)
    (slot : ∀ b o, b ≠ X.env.locals → b ∈ X.fs → b ∉ ch → s.heap.get? b = some o → H b = none → ∃ sl, h'.get? b = some { o with slots := sl }) (free : ∀ b o, b ∉ ch → s.heap.get? b = some o → H b = none → H' b = none)
    (there : ∀ b o, b ∉ ch → s.heap.get? b = some o → ∃ o', h'.get? b = some o')
    (tups : ∀ b xs, H b = some (.tup xs) → H' b = some (.tup xs)) (frzs : ∀ b o u, H b = some (.frz o u) → H' b = some (.frz o u)) (tbls : ∀ b ps, H b = some (.tbl ps) → ∃ more, H' b = some (.tbl (ps ++ more)))
    (ns : ∀ m, s.heap.Ns X.env.locals m → h'.Ns X.env.locals m) (hok : HOk X.prog X.w H' h') (hg : AllBare g') :
    Inv X pins σ H' { s with heap := h', gens := g', drawn := d', toks := t' } := by
  have neL : ∀ b o, X.s_0.heap.get? b = some o → b ≠ X.env.locals := fun b o e => Nat.ne_of_lt (Nat.lt_of_lt_of_le (Heap.lt_size e) I.ok.above)
  have neC : ∀ b o, X.s_0.heap.get? b = some o → b ∉ X.ex → b ∉ ch := fun b o e hx hb => by
    rcases (hch b hb).1 with z | z
    · exact hx z
    · exact absurd (Nat.lt_of_lt_of_le (Heap.lt_size e) z) (Nat.lt_irrefl _)
  have cellK : ∀ x c, X.env.cells.lookup x = some c → ∀ v, s.heap.IsCell c v → h'.IsCell c v := fun x c e v ⟨o, ho, hd⟩ => by
    have nch : c ∉ ch := fun z => (hch c z).2.2.1 x c e rfl
    by_cases hc : c ∈ X.fs
    · obtain ⟨sl, q⟩ := slot c o (I.cne x c e) hc nch ho (I.freeC x c e)
      exact ⟨_, q, hd⟩
    · exact ⟨o, keep c o (I.cne x c e) hc nch ho (I.freeC x c e), hd⟩
  refine ⟨I.ok, I.os, hg, ⟨fun b o e n hb hx => ?_, fun b o e n hb hx => ?_, fun b o e n hx => ?_, fun b o e hx => ?_, fun b xs e => tups b xs (I.base.tups b xs e), fun b o xs e => frzs b o xs (I.base.frzs b o xs e), fun b ps e => ?_⟩, ?_, fun x c e => ?_, ?_, fun x c e => ?_, fun p hp => ?_, hok, I.len⟩
  · exact keep b o (neL b o e) hb (neC b o e hx) (I.base.keep b o e n hb hx) (I.base.free b o e n hx)
  · obtain ⟨sl, e1⟩ := I.base.slot b o e n hb hx
    obtain ⟨sl', e2⟩ := slot b _ (neL b o e) hb (neC b o e hx) e1 (I.base.free b o e n hx)
    exact ⟨sl', e2⟩
  · obtain ⟨o', e1⟩ := I.base.there b o e hx
    exact free b o' (neC b o e hx) e1 (I.base.free b o e n hx)
  · obtain ⟨o', e1⟩ := I.base.there b o e hx
    exact there b o' (neC b o e hx) e1
  · obtain ⟨m1, e1⟩ := I.base.tbls b ps e
    obtain ⟨m2, e2⟩ := tbls b _ e1
    exact ⟨m1 ++ m2, by rw [e2, Array.append_assoc]⟩
  · obtain ⟨m, hn, hl⟩ := I.loc
    refine ⟨m, ns m hn, fun i x v e1 e2 e3 => ?_⟩
    obtain ⟨u, r, l⟩ := hl i x v e1 e2 e3
    refine ⟨u, r, ?_⟩
    rcases l with l | ⟨k, c, e, z⟩
    · exact .inl l
    · exact .inr ⟨k, c, e, cellK x c e _ z⟩
  · obtain ⟨v, z⟩ := I.cell x c e
    exact ⟨v, cellK x c e v z⟩
  · obtain ⟨m, ⟨o, _, _, ho, _⟩, _⟩ := I.loc
    exact free _ o (fun z => (hch _ z).2.1 rfl) ho I.free
  · obtain ⟨v, o, ho, hd⟩ := I.cell x c e
    exact free c o (fun z => (hch c z).2.2.1 x c e rfl) ho (I.freeC x c e)
  · obtain ⟨e, n, ne, nf, d⟩ := I.pin p hp
    have nch : p.1 ∉ ch := fun z => (hch p.1 z).2.2.2 p hp rfl
    exact ⟨keep p.1 p.2 ne nf nch e n, free p.1 p.2 nch e n, ne, nf, d⟩
/-- .. where the frame's own object is kept too -/
theorem Inv.un {t' : Nat} (I : Inv X pins σ H s) (u : Un X.fs [] H H' s.heap h') (hok : HOk X.prog X.w H' h') : Inv X pins σ H' { s with heap := h', toks := t' } := by
  obtain ⟨m, ⟨o, es, ep, ho, r⟩, _⟩ := id I.loc
  obtain ⟨sl, hL⟩ := u.any ho I.free (by simp)
  exact I.step (g' := s.gens) (d' := s.drawn) (ch := []) (fun _ z => nomatch z) (fun b o _ hb _ e n => u.keep b o e n hb (by simp)) (fun b o _ hb _ e n => u.slot b o e n hb (by simp)) (fun b o _ e n => u.free b o e n (by simp)) (fun b o _ e => u.there b o e (by simp)) u.tups u.frzs u.tbls (fun m' hm => by
    obtain ⟨o', es', ep', ho', r'⟩ := hm
    rw [ho] at ho'; cases ho'
    exact ⟨_, es', ep', hL, r'⟩) hok I.bare
/-- behind a call (or a comprehension's block): the slots of this frame may have changed too, the records at ch may have turned -/
theorem Inv.call {g' : Array GenState} {t' : Nat} {d' : Drawn} {ch : List Addr} (I : Inv X pins σ H s) (u : Un (frs X.stack) ch H H' s.heap h') (hok : HOk X.prog X.w H' h') (hg : AllBare g')
    (hch : ∀ b ∈ ch, (b ∈ X.ex ∨ X.s_0.heap.objs.size ≤ b) ∧ b ≠ X.env.locals ∧ (∀ x c, X.env.cells.lookup x = some c → c ≠ b) ∧ ∀ p ∈ X.pn ++ pins, p.1 ≠ b) :
    Inv X pins σ H' { s with heap := h', gens := g', drawn := d', toks := t' } := by
  obtain ⟨m, ⟨o, es, ep, ho, r⟩, _⟩ := id I.loc
  obtain ⟨sl, hL⟩ := u.any ho I.free fun z => (hch _ z).2.1 rfl
  exact I.step (ch := ch) hch (fun b o hL hb hc e n => u.keep b o e n (fun z => (List.mem_cons.mp (I.stkSub b z)).elim hL hb) hc) (fun b o _ _ hc e n => u.any e n hc) (fun b o hc e n => u.free b o e n hc) (fun b o hc e => u.there b o e hc) u.tups u.frzs u.tbls (fun m' hm => by
    obtain ⟨o', es', ep', ho', r'⟩ := hm
    rw [ho] at ho'; cases ho'
    exact ⟨_, es', ep', hL, r'⟩) hok hg
/-- an untracked record of ours (an iterator) has turned -/
theorem Inv.turned {t' : Nat} {it : Addr} (I : Inv X pins σ H s) (k : ∀ b o, b ≠ it → s.heap.get? b = some o → h'.get? b = some o) (hn : H it = none) (hL : it ≠ X.env.locals)
    (h1 : it ∈ X.ex ∨ X.s_0.heap.objs.size ≤ it) (h2 : ∀ x c, X.env.cells.lookup x = some c → c ≠ it) (h3 : ∀ p ∈ X.pn ++ pins, p.1 ≠ it) : Inv X pins σ H { s with heap := h', toks := t' } := by
  have nit : ∀ b u, H b = some u → b ≠ it := fun b u e z => by rw [z, hn] at e; cases e
  refine I.step (g' := s.gens) (d' := s.drawn) (ch := [it]) (fun b hb => ?_) (fun b o _ _ hc e _ => k b o (fun z => hc (by simp [z])) e) (fun b o _ _ hc e _ => ⟨o.slots, k b o (fun z => hc (by simp [z])) e⟩) (fun _ _ _ _ n => n)
    (fun b o hc e => ⟨o, k b o (fun z => hc (by simp [z])) e⟩) (fun _ _ e => e) (fun _ _ _ e => e) (fun b ps e => ⟨#[], by rw [e]; simp⟩) (fun m hm => ?_) (fun b u e => ?_) I.bare
  · have e : b = it := by simpa using hb
    subst e
    exact ⟨h1, hL, h2, h3⟩
  · obtain ⟨o, es, ep, ho, r⟩ := hm
    exact ⟨o, es, ep, k _ o (Ne.symm hL) ho, r⟩
  · refine (I.hok b u e).stay (fun c v hc q => k c v ?_ q) (fun _ q => q) fun _ _ q => q
    rcases hc with z | z
    · rw [z]; exact nit b u e
    · exact nit c _ z
theorem Inv.tok (I : Inv X pins σ H s) (t : Nat) : Inv X pins σ H { s with toks := t } := I.un (h' := s.heap) (t' := t) Un.refl I.hok
/-- all objects kept -/
theorem Inv.kept {t' : Nat} (I : Inv X pins σ H s) (k : ∀ b u, s.heap.get? b = some u → h'.get? b = some u) : Inv X pins σ H { s with heap := h', toks := t' } := I.un (Un.kept k) (I.hok.kept k)
/-- a new object laid and tracked -/
theorem Inv.laid {a : Addr} {o : HO} {t' : Nat} (I : Inv X pins σ H s) (k : ∀ b u, s.heap.get? b = some u → h'.get? b = some u) (hp : s.heap.objs.size ≤ a) (new : ObjOk X.prog X.w (upd H a o) h' a o) :
    Inv X pins σ (upd H a o) { s with heap := h', toks := t' } := I.un (Un.laid k hp (I.hok.fresh hp)) (I.hok.laid k hp new)
/-- an object written -/
theorem Inv.write {x e : Addr} {o : HO} {t' : Nat} (I : Inv X pins σ H s) (mu : Mut (H x)) (he : e = x ∨ H e = some (.own x)) (k : ∀ b u, b ≠ e → s.heap.get? b = some u → h'.get? b = some u) (heo : ∃ u, h'.get? e = some u)
    (new : ObjOk X.prog X.w (upd H x o) h' x o) : Inv X pins σ (upd H x o) { s with heap := h', toks := t' } := I.un (Un.write mu he k heo) (I.hok.write mu he k heo new)
/-- forgetting slots, pins -/
theorem Inv.weak {σ' : List (Option V)} (I : Inv X pins σ H s) (hl : σ'.length = σ.length) (w : ∀ (i : Nat) v, σ'[i]? = some (some v) → σ[i]? = some (some v)) : Inv X pins σ' H s :=
  ⟨I.ok, I.os, I.bare, I.base, let ⟨m, hn, hl'⟩ := I.loc; ⟨m, hn, fun i x v e1 e2 e3 => hl' i x v e1 (w i v e2) e3⟩, I.cell, I.free, I.freeC, I.pin, I.hok, hl.trans I.len⟩
theorem Inv.pins_of {pins' : List (Addr × Obj)} (I : Inv X pins σ H s) (h : ∀ p ∈ pins', s.heap.get? p.1 = some p.2 ∧ H p.1 = none ∧ p.1 ≠ X.env.locals ∧ p.1 ∉ X.fs ∧ ∀ v, p.2.data ≠ .cell v) : Inv X pins' σ H s :=
  ⟨I.ok, I.os, I.bare, I.base, I.loc, I.cell, I.free, I.freeC, fun p hp => (List.mem_append.mp hp).elim (fun z => I.pin p (List.mem_append_left _ z)) (h p), I.hok, I.len⟩
theorem nodup_ix {N : List Str} (hN : N.Nodup) {i j : Nat} {x : Str} (a : N[i]? = some x) (b : N[j]? = some x) : i = j := by
  obtain ⟨h1, e1⟩ := List.getElem?_eq_some_iff.mp a
  obtain ⟨h2, e2⟩ := List.getElem?_eq_some_iff.mp b
  exact (List.getElem_inj hN).mp (e1.trans e2.symm)
/-- a name is stored; what changed -/
theorem store_ok2 {M : Model} {A : Around} {E : Value → Shared → Prop} {i : Nat} {x : Str} {v : V} {u : Value} {Q : Unit → Shared → Prop} (I : Inv X pins σ H s) (hN : X.N.Nodup) (hi : X.N[i]? = some x) (hx : Loc X.env.scope x) (r : RelV v u)
    (h : ∀ s', Inv X pins (σ.set i (some v)) H s' → (∃ a, Heap.SameBut a s.heap s'.heap ∧ (a = X.env.locals ∨ X.env.cells.lookup x = some a)) → Q () s') (hf : X.fn x = true ∨ X.env.scope.names.lookup x = some .local := by first | exact .inl rfl | exact .inr rfl | assumption) : wpAny M A (storeName X.env x u) Q E s := by
  obtain ⟨m, hn, hl⟩ := id I.loc
  have hcls : (X.env.scope.kind == .class || (X.env.scope.kind == .module && X.env.locals != X.env.globals)) = false := by rw [I.ok.kind]; rfl
  have hiσ : i < σ.length := by rw [I.len]; exact (List.getElem?_eq_some_iff.mp hi).1
  have cne := I.cne
  have tracked : ∀ {a : Addr} {h' : Heap}, (∃ o, s.heap.get? a = some o ∧ H a = none) → Heap.SameBut a s.heap h' → HOk X.prog X.w H h' := fun {a h'} ha hs b ob e => by
    obtain ⟨_, _, hfree⟩ := ha
    refine (I.hok b ob e).stay (fun c w' hc q => (hs.2 c ?_).trans q) (fun _ q => q) fun _ _ q => q
    rintro rfl
    rcases hc with rfl | hc
    · rw [hfree] at e; cases e
    · rw [hfree] at hc; cases hc
  rcases hx with hk | hk
  · refine wpAny_storeName_local hk hn (fun h' hn' hs => ?_) hcls
    obtain ⟨oL, _, _, hoL, _⟩ := id hn
    refine h _ ⟨I.ok, I.os, I.bare, ⟨fun b o e n hb hx => ?_, fun b o e n hb hx => ?_, I.base.free, fun b o e hx => ?_, I.base.tups, I.base.frzs, I.base.tbls⟩, ⟨_, hn', fun j y v' e1 e2 e3 => ?_⟩, fun y c e => ?_, I.free, I.freeC, fun p hp => ?_, tracked ⟨oL, hoL, I.free⟩ hs, by simpa using I.len⟩ ⟨_, hs, .inl rfl⟩
    · exact (hs.2 b (Nat.ne_of_lt (Nat.lt_of_lt_of_le (Heap.lt_size e) I.ok.above))).trans (I.base.keep b o e n hb hx)
    · obtain ⟨sl, e1⟩ := I.base.slot b o e n hb hx
      exact ⟨sl, (hs.2 b (Nat.ne_of_lt (Nat.lt_of_lt_of_le (Heap.lt_size e) I.ok.above))).trans e1⟩
    · obtain ⟨o', e1⟩ := I.base.there b o e hx
      exact ⟨o', (hs.2 b (Nat.ne_of_lt (Nat.lt_of_lt_of_le (Heap.lt_size e) I.ok.above))).trans e1⟩
    · by_cases hj : j = i
      · subst hj
        rw [hi] at e1; cases e1
        rw [List.getElem?_set_self hiσ] at e2
        cases e2
        exact ⟨u, r, .inl ⟨hk, by simp⟩⟩
      · rw [List.getElem?_set_ne (Ne.symm hj)] at e2
        obtain ⟨u', r', q⟩ := hl j y v' e1 e2 e3
        refine ⟨u', r', ?_⟩
        rcases q with ⟨k, e⟩ | ⟨k, c, e, z⟩
        · refine .inl ⟨k, ?_⟩
          have : y ≠ x := fun e => hj (nodup_ix hN e1 (e ▸ hi))
          simp [this, e]
        · exact .inr ⟨k, c, e, z.sameBut hs (cne y c e)⟩
    · obtain ⟨w', z⟩ := I.cell y c e
      exact ⟨w', z.sameBut hs (cne y c e)⟩
    · obtain ⟨e, n, ne, nf, d⟩ := I.pin p hp
      exact ⟨(hs.2 p.1 ne).trans e, n, ne, nf, d⟩
  · have hfn : X.fn x = true := by
      rcases hf with z | z
      · exact z
      · rw [z] at hk; cases hk
    obtain ⟨c, hc⟩ := I.ok.has x (.inl hk)
    obtain ⟨w', z⟩ := I.cell x c hc
    refine wpAny_storeName_cell I.ok.kind hk hc z (fun h' hc' hs => ?_)
    obtain ⟨oc, hoc, hocd⟩ := id z
    refine h { s with heap := h' } ⟨I.ok, I.os, I.bare, ⟨fun b o e n hb hx => ?_, fun b o e n hb hx => ?_, I.base.free, fun b o e hx => ?_, I.base.tups, I.base.frzs, I.base.tbls⟩, ⟨m, hn.sameBut hs (Ne.symm (cne x c hc)), fun j y v' e1 e2 e3 => ?_⟩, fun y c' e => ?_, I.free, I.freeC, fun p hp => ?_, tracked ⟨oc, hoc, I.freeC x c hc⟩ hs, by simpa using I.len⟩ ⟨c, hs, .inr hc⟩
    · exact (hs.2 b (Nat.ne_of_lt (Nat.lt_of_lt_of_le (Heap.lt_size e) (I.ok.cab x c hfn hc)))).trans (I.base.keep b o e n hb hx)
    · obtain ⟨sl, e1⟩ := I.base.slot b o e n hb hx
      exact ⟨sl, (hs.2 b (Nat.ne_of_lt (Nat.lt_of_lt_of_le (Heap.lt_size e) (I.ok.cab x c hfn hc)))).trans e1⟩
    · obtain ⟨o', e1⟩ := I.base.there b o e hx
      exact ⟨o', (hs.2 b (Nat.ne_of_lt (Nat.lt_of_lt_of_le (Heap.lt_size e) (I.ok.cab x c hfn hc)))).trans e1⟩
    · by_cases hj : j = i
      · subst hj
        rw [hi] at e1; cases e1
        rw [List.getElem?_set_self hiσ] at e2
        cases e2
        exact ⟨u, r, .inr ⟨.inl hk, c, hc, hc'⟩⟩
      · rw [List.getElem?_set_ne (Ne.symm hj)] at e2
        obtain ⟨u', r', q⟩ := hl j y v' e1 e2 e3
        refine ⟨u', r', ?_⟩
        rcases q with q | ⟨k, c', e, z'⟩
        · exact .inl q
        · refine .inr ⟨k, c', e, z'.sameBut hs ?_⟩
          rintro rfl
          exact hj (nodup_ix hN e1 (I.ok.inj _ _ _ e hc ▸ hi))
    · by_cases hcc : c' = c
      · subst hcc; exact ⟨_, hc'⟩
      · obtain ⟨w2, z2⟩ := I.cell y c' e
        exact ⟨w2, z2.sameBut hs hcc⟩
    · obtain ⟨e, n, ne, nf, d⟩ := I.pin p hp
      refine ⟨(hs.2 p.1 ?_).trans e, n, ne, nf, d⟩
      intro q
      rw [q, hoc] at e
      have q' : oc = p.2 := Option.some.inj e
      exact d w' (by rw [← q']; exact hocd)
theorem store_ok {M : Model} {A : Around} {E : Value → Shared → Prop} {i : Nat} {x : Str} {v : V} {u : Value} {Q : Unit → Shared → Prop} (I : Inv X pins σ H s) (hN : X.N.Nodup) (hi : X.N[i]? = some x) (hx : Loc X.env.scope x) (r : RelV v u)
    (h : ∀ s', Inv X pins (σ.set i (some v)) H s' → Q () s') (hf : X.fn x = true ∨ X.env.scope.names.lookup x = some .local := by first | exact .inl rfl | exact .inr rfl | assumption) : wpAny M A (storeName X.env x u) Q E s :=
  store_ok2 I hN hi hx r (fun s' I' _ => h s' I') hf
/-- behind a call or a block, the state as it is -/
theorem Inv.call' {s' : Shared} {ch : List Addr} (I : Inv X pins σ H s) (ho : s'.os = s.os) (u : Un (frs X.stack) ch H H' s.heap s'.heap) (hok : HOk X.prog X.w H' s'.heap) (hg : AllBare s'.gens)
    (hch : ∀ b ∈ ch, (b ∈ X.ex ∨ X.s_0.heap.objs.size ≤ b) ∧ b ≠ X.env.locals ∧ (∀ x c, X.env.cells.lookup x = some c → c ≠ b) ∧ ∀ p ∈ X.pn ++ pins, p.1 ≠ b) : Inv X pins σ H' s' := by
  obtain ⟨h', g', d', t', o'⟩ := s'
  have e : o' = s.os := ho
  subst e
  exact I.call (g' := g') (t' := t') (d' := d') u hok hg hch
end
/-! ### the judgements -/
/-- an exception: its class, its own dict's address (where it has one), the abstract heap behind it -/
abbrev XK := Value → Option Addr → Hp → Prop
abbrev St := List (Option V)
abbrev VK := V → Hp → Prop
/-- an expression's reading; a test's; an argument list's -/
abbrev TE := St → Hp → VK → Prop
abbrev TT := St → Hp → (Bool → Hp → Prop) → Prop
abbrev TA := St → Hp → (List V → Hp → Prop) → Prop
/-- what is wanted behind a statement -/
structure Ends where
  nx : St → Hp → Prop
  rt : VK
  bk : St → Hp → Prop := fun _ _ => False
  ct : St → Hp → Prop := fun _ _ => False
abbrev TS := Ends → St → Hp → Prop
def EP (X : Cx) (pins : List (Addr × Obj)) (σ : St) (Q : VK) (u : Value) (s' : Shared) : Prop := ∃ v H', Inv X pins σ H' s' ∧ RelV v u ∧ Q v H'
def TP (X : Cx) (pins : List (Addr × Obj)) (σ : St) (Q : Bool → Hp → Prop) (b : Bool) (s' : Shared) : Prop := ∃ H', Inv X pins σ H' s' ∧ Q b H'
def AP (X : Cx) (pins : List (Addr × Obj)) (σ : St) (Q : List V → Hp → Prop) (us : List Value) (s' : Shared) : Prop := ∃ vs H', Inv X pins σ H' s' ∧ Vals vs us ∧ Q vs H'
def SP (X : Cx) (pins : List (Addr × Obj)) (D : Ends) (f : Flow) (s' : Shared) : Prop :=
  match f with
  | .next => ∃ σ' H', Inv X pins σ' H' s' ∧ D.nx σ' H'
  | .brk => ∃ σ' H', Inv X pins σ' H' s' ∧ D.bk σ' H'
  | .cont => ∃ σ' H', Inv X pins σ' H' s' ∧ D.ct σ' H'
  | .ret u => ∃ v σ' H', Inv X pins σ' H' s' ∧ RelV v u ∧ D.rt v H'
def PE (X : Cx) (e : Expr) (t : TE) : Prop :=
  ∀ (pins : List (Addr × Obj)) (s : Shared) (σ : St) (H : Hp) (Q : VK), Inv X pins σ H s → t σ H Q → wpAny (model X.prog X.w) X.A (eval e X.env) (EP X pins σ Q) X.xe s
def PT (X : Cx) (e : Expr) (t : TT) : Prop :=
  ∀ (pins : List (Addr × Obj)) (s : Shared) (σ : St) (H : Hp) (Q : Bool → Hp → Prop), Inv X pins σ H s → t σ H Q → wpAny (model X.prog X.w) X.A (isTrue e X.env (eval e X.env)) (TP X pins σ Q) X.xe s
/-- a test whatever its 'whole' is (and, or) -/
def PW (X : Cx) (e : Expr) (t : TT) : Prop :=
  ∀ (whole : Sem Value) (pins : List (Addr × Obj)) (s : Shared) (σ : St) (H : Hp) (Q : Bool → Hp → Prop), Inv X pins σ H s → t σ H Q → wpAny (model X.prog X.w) X.A (isTrue e X.env whole) (TP X pins σ Q) X.xe s
theorem PW.pt {X : Cx} {e : Expr} {t : TT} (h : PW X e t) : PT X e t := h _
/-- an argument list (no star), from the left -/
def PA (X : Cx) (es : List Expr) (t : TA) : Prop :=
  ∀ (pos : Pos) (pins : List (Addr × Obj)) (s : Shared) (σ : St) (H : Hp) (Q : List V → Hp → Prop), Inv X pins σ H s → t σ H Q → wpAny (model X.prog X.w) X.A (spliced (backTo pos (starEach es X.env))) (AP X pins σ Q) X.xe s
def PS (X : Cx) (st : Stmt) (t : TS) : Prop :=
  ∀ (pins : List (Addr × Obj)) (s : Shared) (σ : St) (H : Hp) (D : Ends), Inv X pins σ H s → t D σ H → wpAny (model X.prog X.w) X.A (exec st X.env) (SP X pins D) X.xe s
def PSs (X : Cx) (st : List Stmt) (t : TS) : Prop :=
  ∀ (pins : List (Addr × Obj)) (s : Shared) (σ : St) (H : Hp) (D : Ends), Inv X pins σ H s → t D σ H → wpAny (model X.prog X.w) X.A (execs st X.env) (SP X pins D) X.xe s
/-- weaken the end -/
theorem thn {α : Type} {t : Sem α} {Q Q' : α → Shared → Prop} {M : Model} {A : Around} {E : Value → Shared → Prop} {s : Shared} (h : wpAny M A t Q E s) (hQ : ∀ a s, Q a s → Q' a s) : wpAny M A t Q' E s := wpAny_mono h hQ fun _ _ x => x
end L2
namespace L2
open PySem PySem.Spec PyProof.Rows
section
variable {X : Cx}
/-! ### names and constants -/
inductive VarR (i : Nat) (σ : St) (H : Hp) (Q : VK) : Prop
  | mk (v : V) (e : σ[i]? = some (some v)) (q : Q v H) : VarR i σ H Q
def tVar (i : Nat) : TE := fun σ H Q => VarR i σ H Q
inductive BlR (x : V) (H : Hp) (Q : Bool → Hp → Prop) : Prop
  | mk (c : Bool) (e : x = .bl c) (q : Q c H) : BlR x H Q
def tC (v : V) : TE := fun _ H Q => Q v H
theorem pe_var {i : Nat} {x : Str} {pos : Pos} (hN : X.N[i]? = some x) (hv : Vis X.env.scope x) (hd : (x == ("__debug__" : Str)) = false := by decide) (hcd : (x == ("__classdict__" : Str)) = false := by decide) : PE X (.Name x pos) (tVar i) := by
  intro pins s σ H Q I h
  obtain ⟨v, e, h⟩ := h
  obtain ⟨m, hn, hl⟩ := I.loc
  obtain ⟨u, r, l⟩ := hl i x v hN e hv
  have fin : EP X pins σ Q u s := ⟨v, H, I, r, h⟩
  rcases l with ⟨hk, hm⟩ | ⟨hk, c, hc, hcell⟩
  · exact wpAny_Name (wpAny_loadName_local I.ok.kind hk hn hm fin) hd
  · rcases hk with hk | hk
    · exact wpAny_Name (wpAny_loadName_cell I.ok.kind hk hc hcell fin) hd
    · exact wpAny_Name (wpAny_loadName_free I.ok.kind hk hc hcell fin hcd) hd
theorem pe_int {i j pos} : PE X (.Constant (.int i) j pos) (tC (.int i)) := fun _ _ _ H _ I h => wpAny_Constant_int ⟨.int i, H, I.tok _, ⟨_, rfl⟩, h⟩
theorem pe_bl {b j pos} : PE X (.Constant (.bool b) j pos) (tC (.bl b)) := fun _ _ _ H _ I h => Constant_bool ⟨.bl b, H, I, rfl, h⟩
theorem pe_non {j pos} : PE X (.Constant .none j pos) (tC .non) := fun _ _ _ H _ I h => Constant_none ⟨.non, H, I, rfl, h⟩
/-- a global name of the def -/
def Gl (X : Cx) (x : Str) : Prop := X.env.kindOf x = some .globalImplicit
theorem ld_glob {E : Value → Shared → Prop} {pins : List (Addr × Obj)} {s : Shared} {σ : St} {H : Hp} {x : Str} {u : Value} {pos : Pos} {Q : Value → Shared → Prop} (I : Inv X pins σ H s) (hg : Gl X x) (hm : X.mg x = some u) (h : Q u s)
    (hd : (x == ("__debug__" : Str)) = false := by decide) : wpAny (model X.prog X.w) X.A (eval (.Name x pos) X.env) Q E s :=
  Calls.Name_function_global I.ok.kind hg (Calls.loadGlobal_global (by rw [I.ok.glob]; exact I.mod.glob.keeps I.bk) hm h) hd
theorem ld_blt {E : Value → Shared → Prop} {pins : List (Addr × Obj)} {s : Shared} {σ : St} {H : Hp} {x : Str} {u : Value} {pos : Pos} {Q : Value → Shared → Prop} (I : Inv X pins σ H s) (hg : Gl X x) (hm : X.mg x = none) (hv : bootBuiltins x = some u) (h : Q u s)
    (hn : x ≠ "__name__" := by decide) (hd : (x == ("__debug__" : Str)) = false := by decide) : wpAny (model X.prog X.w) X.A (eval (.Name x pos) X.env) Q E s := by
  obtain ⟨mb, h1, h2⟩ := I.mod.blt
  exact Calls.Name_function_global I.ok.kind hg (Calls.loadGlobal_builtin (by rw [I.ok.glob]; exact I.mod.glob.keeps I.bk) hm (by rw [I.ok.blt]; exact h1.keeps I.bk) ((h2 x hn).trans hv) h) hd
/-- a module's constant, a class, a function, as a value -/
theorem pe_glob {x : Str} {v : V} {u : Value} {pos : Pos} (hg : Gl X x) (hm : X.mg x = some u) (r : RelV v u) (hd : (x == ("__debug__" : Str)) = false := by decide) : PE X (.Name x pos) (tC v) :=
  fun _ _ _ H _ I h => ld_glob I hg hm ⟨v, H, I, r, h⟩ hd
/-! ### arithmetic -/
variable {a b : Expr} {ta tb : TE} {pos : Pos}
/-! ### comparisons -/
def PC (X : Cx) (op : CmpOp) (a b : Expr) (t : TE) : Prop :=
  ∀ (pins : List (Addr × Obj)) (s : Shared) (σ : St) (H : Hp) (Q : VK), Inv X pins σ H s → t σ H Q →
    wpAny (model X.prog X.w) X.A (eval a X.env) (fun v s₁ => wpAny (model X.prog X.w) X.A (eval b X.env) (fun u s₂ => wpAny (model X.prog X.w) X.A (compareOp op v u) (EP X pins σ Q) X.xe s₂) X.xe s₁) X.xe s
theorem nobehind (b : Expr) {op : CmpOp} (h : op ≠ .In) (h2 : op ≠ .NotIn) : behindInMarks op b = false := by
  have e1 : (op == CmpOp.In) = false := by cases op <;> first | rfl | exact absurd rfl h
  have e2 : (op == CmpOp.NotIn) = false := by cases op <;> first | rfl | exact absurd rfl h2
  cases b <;> simp [behindInMarks, e1, e2]
/-- is None -/
def tIsN (ta : TE) : TE := fun σ H Q => ta σ H fun x H1 => Q (.bl (decide (x = .non))) H1
def tNotN (ta : TE) : TE := fun σ H Q => ta σ H fun x H1 => Q (.bl (!decide (x = .non))) H1
theorem RelV.none_iff {x : V} {v : Value} (r : RelV x v) : (v == Value.none) = decide (x = .non) := by
  cases x with
  | non => cases r; rfl
  | bl _ => cases r; rfl
  | int _ => obtain ⟨t, rfl⟩ := r; rfl
  | str _ => obtain ⟨t, rfl⟩ := r; rfl
  | byt _ => obtain ⟨t, rfl⟩ := r; rfl
  | flt _ => obtain ⟨t, rfl⟩ := r; rfl
  | ref _ => cases r; rfl
  | ty _ => cases r; rfl
theorem pc_isN {j pos'} (ha : PE X a ta) : PC X .Is a (.Constant .none j pos') (tIsN ta) := by
  intro pins s σ H Q I h
  refine thn (ha pins s σ H _ I h) fun v s1 ⟨x, H1, I1, r1, q1⟩ => ?_
  exact Constant_none (is_none_gen ⟨.bl _, H1, I1, by rw [r1.none_iff]; rfl, q1⟩)
theorem pc_notN {j pos'} (ha : PE X a ta) : PC X .IsNot a (.Constant .none j pos') (tNotN ta) := by
  intro pins s σ H Q I h
  refine thn (ha pins s σ H _ I h) fun v s1 ⟨x, H1, I1, r1, q1⟩ => ?_
  exact Constant_none (isnot_none_gen ⟨.bl _, H1, I1, by rw [r1.none_iff]; rfl, q1⟩)
/-- a comparison as a value, as a test -/
def tB (t : TE) : TT := fun σ H Q => t σ H fun x H1 => BlR x H1 Q
theorem pt_cmp {op : CmpOp} {t : TE} (h : PC X op a b t) (h1 : behindInMarks op b = false := by first | exact nobehind _ (by decide) (by decide) | rfl) : PT X (.Compare a [op] [b] pos) (tB t) := by
  intro pins s σ H Q I hw
  refine wpAny_isTrue_Compare1 (thn (h pins s σ H _ I hw) fun v s1 h1 => thn h1 fun u s2 h2 => thn h2 fun c s3 ⟨x, H1, I1, r1, q1⟩ => ?_) h1
  obtain ⟨d, rfl, q⟩ := q1
  cases r1
  exact wpAny_truthy_bool ⟨H1, I1, q⟩
/-- an expression whose value is a bool, as a test -/
theorem pt_val {e : Expr} {t : TE} (h : PE X e t) (he : ∀ whole, isTrue e X.env whole = (do let v ← whole; standAt e.pos; holding [v] (truthy v)) := by intro _; rfl) : PT X e (tB t) := by
  intro pins s σ H Q I hw
  refine isTrue_plain (thn (h pins s σ H _ I hw) fun v s1 ⟨x, H1, I1, r1, q1⟩ => ?_) (he _)
  obtain ⟨d, rfl, q⟩ := q1
  cases r1
  exact wpAny_truthy_bool ⟨H1, I1, q⟩
/-! ### and, or, not -/
variable {tA tB' : TT} {rest : List Expr}
def tAnd (t u : TT) : TT := fun σ H Q => t σ H fun c H1 => if c = true then u σ H1 Q else Q false H1
def tOr (t u : TT) : TT := fun σ H Q => t σ H fun c H1 => if c = true then Q true H1 else u σ H1 Q
def tNot (t : TT) : TT := fun σ H Q => t σ H fun c H1 => Q (!c) H1
theorem pw_and1 (ha : PT X a tA) : PW X (.BoolOp .And [a] pos) tA := by
  intro wh pins s σ H Q I h
  refine isTrue_and (thn (ha pins s σ H Q I h) fun c s1 e => ?_)
  cases c with
  | true => exact isTrue_and_nil e
  | false => exact e
theorem pw_or1 (ha : PT X a tA) : PW X (.BoolOp .Or [a] pos) tA := by
  intro wh pins s σ H Q I h
  refine isTrue_or (thn (ha pins s σ H Q I h) fun c s1 e => ?_)
  cases c with
  | false => exact isTrue_or_nil e
  | true => exact e
theorem pw_and (ha : PT X a tA) (hb : PW X (.BoolOp .And (b :: rest) pos) tB') : PW X (.BoolOp .And (a :: b :: rest) pos) (tAnd tA tB') := by
  intro wh pins s σ H Q I h
  refine isTrue_and (thn (ha pins s σ H _ I h) fun c s1 ⟨H1, I1, q1⟩ => ?_)
  cases c with
  | true => exact hb wh pins s1 σ H1 Q I1 q1
  | false => exact ⟨H1, I1, q1⟩
theorem pw_or (ha : PT X a tA) (hb : PW X (.BoolOp .Or (b :: rest) pos) tB') : PW X (.BoolOp .Or (a :: b :: rest) pos) (tOr tA tB') := by
  intro wh pins s σ H Q I h
  refine isTrue_or (thn (ha pins s σ H _ I h) fun c s1 ⟨H1, I1, q1⟩ => ?_)
  cases c with
  | true => exact ⟨H1, I1, q1⟩
  | false => exact hb wh pins s1 σ H1 Q I1 q1
theorem pt_not (ha : PT X a tA) : PT X (.UnaryOp .Not a pos) (tNot tA) := by
  intro pins s σ H Q I h
  exact isTrue_not (ha pins s σ H (fun c H1 => Q (!c) H1) I h)
/-- .. as values (bools) -/
def tAndV (ta tb : TE) : TE := fun σ H Q => ta σ H fun x H1 => ∃ c, x = .bl c ∧ if c = true then tb σ H1 Q else Q (.bl false) H1
def tOrV (ta tb : TE) : TE := fun σ H Q => ta σ H fun x H1 => ∃ c, x = .bl c ∧ if c = true then Q (.bl true) H1 else tb σ H1 Q
theorem pe_one {op} {t : TE} (h : PE X a t) : PE X (.BoolOp op [a] pos) t := fun pins s σ H Q I hw => BoolOp_one (h pins s σ H Q I hw)
theorem pe_and (ha : PE X a ta) (hb : PE X (.BoolOp .And (b :: rest) pos) tb) : PE X (.BoolOp .And (a :: b :: rest) pos) (tAndV ta tb) := by
  intro pins s σ H Q I h
  refine BoolOp_and (thn (ha pins s σ H _ I h) fun v s1 ⟨x, H1, I1, r1, q1⟩ => ?_)
  obtain ⟨c, rfl, q1⟩ := q1
  cases r1
  refine wpAny_truthy_bool ?_
  cases c with
  | true => exact hb pins s1 σ H1 Q I1 q1
  | false => exact ⟨.bl false, H1, I1, rfl, q1⟩
theorem pe_or (ha : PE X a ta) (hb : PE X (.BoolOp .Or (b :: rest) pos) tb) : PE X (.BoolOp .Or (a :: b :: rest) pos) (tOrV ta tb) := by
  intro pins s σ H Q I h
  refine BoolOp_or (thn (ha pins s σ H _ I h) fun v s1 ⟨x, H1, I1, r1, q1⟩ => ?_)
  obtain ⟨c, rfl, q1⟩ := q1
  cases r1
  refine wpAny_truthy_bool ?_
  cases c with
  | false => exact hb pins s1 σ H1 Q I1 q1
  | true => exact ⟨.bl true, H1, I1, rfl, q1⟩
/-- a if t else b -/
def tIf (t : TT) (ta tb : TE) : TE := fun σ H Q => t σ H fun c H1 => if c = true then ta σ H1 Q else tb σ H1 Q
theorem pe_ifExp {c : Expr} (hc : PT X c tA) (ha : PE X a ta) (hb : PE X b tb) : PE X (.IfExp c a b pos) (tIf tA ta tb) := by
  intro pins s σ H Q I h
  refine wpAny_IfExp (thn (hc pins s σ H _ I h) fun d s1 ⟨H1, I1, q1⟩ => ?_)
  cases d with
  | true => exact ha pins s1 σ H1 Q I1 q1
  | false => exact hb pins s1 σ H1 Q I1 q1
end
end L2
namespace L2
open PySem PySem.Spec PyProof.Rows
/-! ### a list, a tuple that is read: tracked, frozen, or an object of the module -/
def SqL (K : PySem.W.Frag) (H : Hp) (a : Addr) (xs : List V) : Prop :=
  Rd H a (.lst xs) ∨
    ∃ (o : Obj) (its : Array Value) (n : Nat), K.lookup a = some o ∧ o.cls = .type "list" ∧ o.dict = none ∧ o.data = .seq its n ∧ its.size ≤ sizeLine ∧ Vals xs its.toList
def SqT (K : PySem.W.Frag) (H : Hp) (a : Addr) (xs : List V) : Prop :=
  Rd H a (.tup xs) ∨
    ∃ (o : Obj) (its : Array Value) (n : Nat), K.lookup a = some o ∧ o.cls = .type "tuple" ∧ o.data = .seq its n ∧ its.size ≤ sizeLine ∧ Vals xs its.toList
def absV : Value → Option V
  | .none => some .non
  | .bool b => some (.bl b)
  | .int i _ => some (.int i)
  | .str x _ => some (.str x)
  | .bytes b _ => some (.byt b)
  | .float b _ => some (.flt b)
  | .ref a => some (.ref a)
  | .type n => some (.ty n)
  | _ => none
theorem RelV.abs {x : V} {u : Value} (r : RelV x u) : absV u = some x := by
  cases x with
  | non => cases r; rfl
  | bl _ => cases r; rfl
  | int _ => obtain ⟨t, rfl⟩ := r; rfl
  | str _ => obtain ⟨t, rfl⟩ := r; rfl
  | byt _ => obtain ⟨t, rfl⟩ := r; rfl
  | flt _ => obtain ⟨t, rfl⟩ := r; rfl
  | ref _ => cases r; rfl
  | ty _ => cases r; rfl
theorem RelV.inj {x y : V} {u : Value} (r : RelV x u) (q : RelV y u) : x = y := Option.some.inj (r.abs.symm.trans q.abs)
theorem Vals.inj : ∀ {xs ys : List V} {us : List Value}, Vals xs us → Vals ys us → xs = ys
  | _, _, _, .nil, .nil => rfl
  | _, _, _, .cons r t, .cons r' t' => by rw [r.inj r', Vals.inj t t']
section
variable {X : Cx} {pins : List (Addr × Obj)} {σ : St} {H : Hp} {s : Shared} {a : Addr} {xs ys : List V}
theorem SqL.of {K : PySem.W.Frag} (h : H a = some (.lst xs)) : SqL K H a xs := .inl (.inl h)
theorem SqT.of {K : PySem.W.Frag} (h : H a = some (.tup xs)) : SqT K H a xs := .inl (.inl h)
theorem Inv.list (I : Inv X pins σ H s) (h : SqL X.K H a xs) : ∃ its : List Value, Vals xs its ∧ PlainL s.heap a its.toArray ∧ xs.length ≤ sizeLine := by
  rcases h with h | ⟨o, its, n, hk, hc, hd, hs, hz, r⟩
  · obtain ⟨z, its, n, r, e⟩ := h.ok I.hok
    exact ⟨its, r, ⟨_, n, e, rfl, rfl, rfl⟩, z⟩
  · refine ⟨its.toList, r, ⟨o, n, I.kIn a o hk, hc, hd, by simpa using hs⟩, ?_⟩
    have e := r.length
    simp only [Array.length_toList] at e
    omega
theorem Inv.tuple (I : Inv X pins σ H s) (h : SqT X.K H a xs) : ∃ its : List Value, Vals xs its ∧ IsTup s.heap a its.toArray ∧ xs.length ≤ sizeLine := by
  rcases h with h | ⟨o, its, n, hk, hc, hs, hz, r⟩
  · obtain ⟨z, its, r, p⟩ := h.ok I.hok
    exact ⟨its, r, p, z⟩
  · refine ⟨its.toList, r, ⟨o, I.kIn a o hk, hc, n, by simpa using hs⟩, ?_⟩
    have e := r.length
    simp only [Array.length_toList] at e
    omega
theorem Inv.list_inj (I : Inv X pins σ H s) (h : SqL X.K H a xs) (h' : SqL X.K H a ys) : xs = ys := by
  obtain ⟨its, r, ⟨o, n, e, _, _, d⟩, _⟩ := I.list h
  obtain ⟨its', r', ⟨o', n', e', _, _, d'⟩, _⟩ := I.list h'
  rw [e] at e'; cases e'
  rw [d] at d'
  injection d' with d1 _
  have : its = its' := by simpa using congrArg Array.toList d1
  subst this
  exact r.inj r'
end
/-! ### another wish about exceptions -/
abbrev Cx.wish (X : Cx) (E : Value → Shared → Prop) : Cx := { X with xe := E }
/-- no exception leaves -/
abbrev Cx.nox (X : Cx) : Cx := X.wish fun _ _ => False
theorem Cx.Ok.wish {X : Cx} (ok : X.Ok) (E : Value → Shared → Prop) : (X.wish E).Ok :=
  ⟨ok.mod, ok.kind, ok.glob, ok.blt, ok.above, ok.inj, ok.has, ok.cab, ok.hd, ok.frames, ok.stk, ok.exf, ok.bs, ok.bsz, ok.noex, ok.exfs, ok.funs, ok.frf⟩
theorem Cx.Ok.unwish {X : Cx} {E : Value → Shared → Prop} (ok : (X.wish E).Ok) : X.Ok :=
  ⟨ok.mod, ok.kind, ok.glob, ok.blt, ok.above, ok.inj, ok.has, ok.cab, ok.hd, ok.frames, ok.stk, ok.exf, ok.bs, ok.bsz, ok.noex, ok.exfs, ok.funs, ok.frf⟩
section
variable {X : Cx} {pins : List (Addr × Obj)} {σ : St} {H : Hp} {s : Shared} {E : Value → Shared → Prop}
theorem Inv.wish (I : Inv X pins σ H s) (E : Value → Shared → Prop) : Inv (X.wish E) pins σ H s := ⟨I.ok.wish E, I.os, I.bare, I.base, I.loc, I.cell, I.free, I.freeC, I.pin, I.hok, I.len⟩
theorem Inv.unwish (I : Inv (X.wish E) pins σ H s) : Inv X pins σ H s := ⟨I.ok.unwish, I.os, I.bare, I.base, I.loc, I.cell, I.free, I.freeC, I.pin, I.hok, I.len⟩
theorem SP.unwish {D : Ends} {f : Flow} {s' : Shared} (h : SP (X.wish E) pins D f s') : SP X pins D f s' := by
  cases f with
  | next => obtain ⟨σ', H', I, q⟩ := h; exact ⟨σ', H', I.unwish, q⟩
  | brk => obtain ⟨σ', H', I, q⟩ := h; exact ⟨σ', H', I.unwish, q⟩
  | cont => obtain ⟨σ', H', I, q⟩ := h; exact ⟨σ', H', I.unwish, q⟩
  | ret u => obtain ⟨v, σ', H', I, r, q⟩ := h; exact ⟨v, σ', H', I.unwish, r, q⟩
theorem PSs.nox {st : List Stmt} {t : TS} (h : PSs X.nox st t) : PSs X st t := fun pins s σ H D I hw =>
  wpAny_mono (h pins s σ H D (I.wish _) hw) (fun _ _ q => q.unwish) fun _ _ z => False.elim z
end
/-! ### blocks and small statements -/
section
variable {X : Cx} {st : Stmt} {rest : List Stmt} {t u : TS} {e : Expr} {te : TE} {pos : Pos}
def tNext : TS := fun D σ H => D.nx σ H
def tSeq (t u : TS) : TS := fun D σ H => t { D with nx := u D } σ H
theorem pss_nil : PSs X [] tNext := fun _ _ σ H _ I h => wpAny_execs_nil ⟨σ, H, I, h⟩
theorem pss_cons (h1 : PS X st t) (h2 : PSs X rest u) : PSs X (st :: rest) (tSeq t u) := by
  intro pins s σ H D I h
  refine wpAny_execs_cons (thn (h1 pins s σ H { D with nx := u D } I h) fun f s1 q => ?_)
  cases f with
  | next =>
    obtain ⟨σ', H', I', q⟩ := q
    exact h2 pins s1 σ' H' D I' q
  | ret v => exact q
  | brk => exact q
  | cont => exact q
theorem pss_one (h1 : PS X st t) : PSs X [st] t := by
  intro pins s σ H D I h
  refine wpAny_execs_cons (thn (h1 pins s σ H D I h) fun f s1 q => ?_)
  cases f with
  | next => exact wpAny_execs_nil q
  | ret v => exact q
  | brk => exact q
  | cont => exact q
/-- in a def's body nothing is shown -/
theorem Inv.quiet {pins : List (Addr × Obj)} {σ : St} {H : Hp} {s : Shared} (I : Inv X pins σ H s) : interactive X.env = false := by simp [interactive, I.ok.kind]
/-- an expression whose value is dropped -/
def tDrop (te : TE) : TS := fun D σ H => te σ H fun _ H1 => D.nx σ H1
theorem ps_expr (he : PE X e te) (hs : swapsWith e none pos.line X.env = pure false := by rfl) : PS X (.Expr e pos) (tDrop te) := by
  intro pins s σ H D I h
  exact wpAny_Expr_any (thn (he pins s σ H _ I h) fun v s1 ⟨x, H1, I1, r1, q1⟩ => ⟨σ, H1, I1, q1⟩) I.quiet hs
def tRet (te : TE) : TS := fun D σ H => te σ H D.rt
theorem ps_ret (he : PE X e te) : PS X (.Return (some e) pos) (tRet te) := by
  intro pins s σ H D I h
  exact wpAny_Return_some (thn (he pins s σ H _ I h) fun v s1 ⟨x, H1, I1, r1, q1⟩ => ⟨x, σ, H1, I1, r1, q1⟩)
def tIfS (c : TT) (t u : TS) : TS := fun D σ H => c σ H fun b H1 => if b = true then t D σ H1 else u D σ H1
theorem ps_if {c : Expr} {a b : List Stmt} {tc : TT} (hc : PT X c tc) (ha : PSs X a t) (hb : PSs X b u) : PS X (.If c a b pos) (tIfS tc t u) := by
  intro pins s σ H D I h
  refine wpAny_If (thn (hc pins s σ H _ I h) fun d s1 ⟨H1, I1, q1⟩ => ?_)
  cases d with
  | true => exact ha pins s1 σ H1 D I1 q1
  | false => exact hb pins s1 σ H1 D I1 q1
end
/-! ### targets -/
abbrev TG := V → St → Hp → (St → Hp → Prop) → Prop
def PG (X : Cx) (target : Expr) (t : TG) : Prop :=
  ∀ (pins : List (Addr × Obj)) (s : Shared) (σ : St) (H : Hp) (v : V) (u : Value) (Q : St → Hp → Prop), Inv X pins σ H s → RelV v u → t v σ H Q →
    wpAny (model X.prog X.w) X.A (assign target X.env u) (fun _ s' => ∃ σ' H', Inv X pins σ' H' s' ∧ Q σ' H') X.xe s
section
variable {X : Cx} {pos : Pos}
def gName (i : Nat) : TG := fun v σ H Q => Q (σ.set i (some v)) H
theorem pg_name {i : Nat} {x : Str} (hN : X.N.Nodup) (hi : X.N[i]? = some x) (hx : Loc X.env.scope x) (hf : X.fn x = true ∨ X.env.scope.names.lookup x = some .local := by first | exact .inl rfl | exact .inr rfl | assumption) : PG X (.Name x pos) (gName i) := by
  intro pins s σ H v u Q I r h
  exact wpAny_assign_Name (store_ok I hN hi hx r (fun s' I' => ⟨_, H, I', h⟩) hf)
/-- target = value -/
def tAsg (te : TE) (g : TG) : TS := fun D σ H => te σ H fun x H1 => g x σ H1 D.nx
/-- name = value -/
theorem ps_set {i : Nat} {x : Str} {e : Expr} {te : TE} {pos' : Pos} (hN : X.N.Nodup) (hi : X.N[i]? = some x) (hx : Loc X.env.scope x) (he : PE X e te) (hs : swapsWith e (some (.Name x pos')) pos.line X.env = pure false := by rfl) (hf : X.fn x = true ∨ X.env.scope.names.lookup x = some .local := by first | exact .inl rfl | exact .inr rfl | assumption) :
    PS X (.Assign [.Name x pos'] e pos) (tAsg te (gName i)) := by
  intro pins s σ H D I h
  refine wpAny_Assign_Name (thn (he pins s σ H _ I h) fun v s1 ⟨y, H1, I1, r1, q1⟩ => ?_) hs
  exact store_ok I1 hN hi hx r1 (fun s2 I2 => ⟨_, H1, I2, q1⟩) hf
end
/-! ### while -/
section
variable {X : Cx} {pos : Pos}
/-- the invariant W with its measure -/
def tWhile (c : TT) (tb : TS) : TS := fun D σ H => ∃ W : Nat → St → Hp → Prop, (∃ m, W m σ H) ∧ ∀ m σ H, W m σ H →
  c σ H fun b H1 => if b = true then ∃ N : St → Hp → Prop, (∀ σ' H', N σ' H' → ∃ m', m' < m ∧ W m' σ' H') ∧ tb { D with nx := N, ct := N, bk := D.nx } σ H1 else D.nx σ H1
theorem ps_while {c : Expr} {body : List Stmt} {tc : TT} {tb : TS} (hp : PassesOwn (model X.prog X.w) X.A X.env X.xe) (hc : PT X c tc) (hb : PSs X body tb) : PS X (.While c body [] pos) (tWhile tc tb) := by
  intro pins s σ H D I h
  obtain ⟨W, ⟨m0, w0⟩, turn⟩ := h
  refine wpAny_While (codeAny_whileLoop (fun n s' => ∃ σ' H', Inv X pins σ' H' s' ∧ W n σ' H') ?_ m0 ⟨σ, H, I, w0⟩)
  rintro n s1 ⟨σ1, H1, I1, w1⟩
  refine wpAny_passesOwn hp (thn (hc pins s1 σ1 H1 _ I1 (turn n σ1 H1 w1)) fun b s2 ⟨H2, I2, q2⟩ => ?_)
  cases b with
  | true =>
    obtain ⟨N, hN, q2⟩ := q2
    rw [if_pos rfl]
    refine wpAny_passesOwn hp (thn (hb pins s2 σ1 H2 _ I2 q2) fun f s3 q3 => ?_)
    cases f with
    | next =>
      obtain ⟨σ3, H3, I3, n3⟩ := q3
      obtain ⟨m', hm, w3⟩ := hN σ3 H3 n3
      exact ⟨m', hm, σ3, H3, I3, w3⟩
    | cont =>
      obtain ⟨σ3, H3, I3, n3⟩ := q3
      obtain ⟨m', hm, w3⟩ := hN σ3 H3 n3
      exact ⟨m', hm, σ3, H3, I3, w3⟩
    | brk => exact q3
    | ret v => exact q3
  | false =>
    rw [if_neg Bool.false_ne_true]
    exact wpAny_execs_nil ⟨σ1, H2, I2, q2⟩
end
/-! ### what a loop or a comprehension walks -/
/-- at turn i: it yields x (the heap may grow), or it stops -/
structure It where
  go : Nat → Hp → Prop
  yld : Nat → Hp → V → Hp → Prop
  stop : Nat → Hp → Prop
/-- the iterator's own objects may turn: they are not the frame's, not pinned, younger than the entry (or a comprehension's own) -/
def FpOk (X : Cx) (pins : List (Addr × Obj)) (H : Hp) (b : Addr) : Prop :=
  H b = none ∧ b ≠ X.env.locals ∧ b ∉ X.fs ∧ (b ∈ X.ex ∨ X.s_0.heap.objs.size ≤ b) ∧ (∀ x c, X.env.cells.lookup x = some c → c ≠ b) ∧ ∀ p ∈ X.pn ++ pins, p.1 ≠ b
theorem Inv.fpOk {X : Cx} {pins : List (Addr × Obj)} {σ : St} {H H' : Hp} {s : Shared} {b : Addr} (I : Inv X pins σ H s) (hb : s.heap.objs.size ≤ b) (hn : H' b = none) : FpOk X pins H' b := by
  refine ⟨hn, Nat.ne_of_gt (Nat.lt_of_lt_of_le I.lt hb), I.nofs hb, .inr (Nat.le_trans I.sz hb), fun x c e z => ?_, fun p hp z => ?_⟩
  · obtain ⟨v, q⟩ := I.cell x c e
    exact absurd (Nat.lt_of_lt_of_le q.lt (by rw [z]; exact hb)) (Nat.lt_irrefl _)
  · exact absurd (Nat.lt_of_lt_of_le (Heap.lt_size (I.pin p hp).1) (by rw [z]; exact hb)) (Nat.lt_irrefl _)
structure Turn (P : Program) (w : World) (K : PySem.W.Frag) (tg : Expr) (J : It) (fp : List Addr) (it : Addr) (tn : Nat → Heap → Prop) : Prop where
  mem : it ∈ fp
  obj : ∀ i h, tn i h → ∀ b ∈ fp, ∃ o, h.get? b = some o ∧ ∀ v, o.data ≠ .cell v
  keep : ∀ i h h', tn i h → (∀ b ∈ fp, ∀ o, h.get? b = some o → h'.get? b = some o) → tn i h'
  item : ∀ (X : Cx), X.prog = P → X.w = w → X.K = K → X.calm = true → ∀ (i : Nat) (pins : List (Addr × Obj)) (s : Shared) (σ : St) (H : Hp) (E : Value → Shared → Prop), Inv X pins σ H s → (∀ b ∈ fp, FpOk X pins H b) → tn i s.heap → J.go i H →
    wpAny (model P w) X.A (pyNext (.ref it)) (fun r s1 => ∃ u, r = some u ∧
      wpAny (model P w) X.A (letOwnedTupleGo tg (.ref it) u) (fun _ s2 => ∃ x H', Inv X pins σ H' s2 ∧ RelV x u ∧ J.yld i H x H' ∧ tn (i + 1) s2.heap ∧ ∀ b ∈ fp, H' b = none) E s1) E s
  done : ∀ (X : Cx), X.prog = P → X.w = w → X.K = K → X.calm = true → ∀ (i : Nat) (pins : List (Addr × Obj)) (s : Shared) (σ : St) (H : Hp) (E : Value → Shared → Prop), Inv X pins σ H s → (∀ b ∈ fp, FpOk X pins H b) → tn i s.heap → J.stop i H →
    wpAny (model P w) X.A (pyNext (.ref it)) (fun r s1 => r = none ∧ Inv X pins σ H s1) E s
  self : ∀ (A : Around) (i : Nat) (s : Shared) (Q : Value → Shared → Prop) (E : Value → Shared → Prop), tn i s.heap → Q (.ref it) s → wpAny (model P w) A (pyIter (.ref it)) Q E s
abbrev TI := St → Hp → (It → Hp → Prop) → Prop
/-- an iterator has come -/
def PIE (X : Cx) (pins : List (Addr × Obj)) (σ : St) (tg : Expr) (R : It → Hp → Prop) (itv : Value) (s2 : Shared) : Prop :=
  ∃ (it : Addr) (fp : List Addr) (tn : Nat → Heap → Prop) (J : It) (H' : Hp), itv = .ref it ∧ Inv X pins σ H' s2 ∧ Turn X.prog X.w X.K tg J fp it tn ∧ tn 0 s2.heap ∧ (∀ b ∈ fp, FpOk X pins H' b) ∧ R J H'
def PI (X : Cx) (tg iter : Expr) (wi : TI) : Prop :=
  ∀ (pins : List (Addr × Obj)) (s : Shared) (σ : St) (H : Hp) (R : It → Hp → Prop), Inv X pins σ H s → wi σ H R →
    wpAny (model X.prog X.w) X.A (eval iter X.env) (fun v s1 => wpAny (model X.prog X.w) X.A (pyIter v) (PIE X pins σ tg R) X.xe s1) X.xe s
/-- the step ahead of the store is nothing for an iterator that keeps no tuple -/
theorem go_of {M : Model} {A : Around} {E : Value → Shared → Prop} {s : Shared} {tg : Expr} {it : Addr} {u : Value} {o : Obj} {n : String} {vs : Array Value} {Q : Unit → Shared → Prop} (ho : s.heap.get? it = some o) (hc : o.cls = .type n) (hd : o.data = .fields vs)
    (hn : ["enumerate", "zip", "dict_itemiterator", "dict_reverseitemiterator", "odict_iterator", "itertools.zip_longest", "itertools.pairwise"].contains n = false) (hQ : Q () s) : wpAny M A (letOwnedTupleGo tg (.ref it) u) Q E s := by
  unfold letOwnedTupleGo
  cases tg <;> first
    | exact wpAny_pure hQ
    | (cases u <;> first
        | exact wpAny_pure hQ
        | (refine wpAny_bind (wpAny_load ho ?_)
           rw [hc, hd]
           show wpAny M A (if (["enumerate", "zip", "dict_itemiterator", "dict_reverseitemiterator", "odict_iterator", "itertools.zip_longest", "itertools.pairwise"].contains n && vs[0]? == some (rawInt _)) = true then _ else _) Q E s
           rw [if_neg (by intro h; rw [hn, Bool.false_and] at h; cases h)]
           exact wpAny_pure hQ))
/-- the list at a, as it stands at each turn (a loop may append to it) -/
def Itl (K : PySem.W.Frag) (a : Addr) : It :=
  ⟨fun i H => ∃ xs x, SqL K H a xs ∧ xs[i]? = some x, fun i H x H' => H' = H ∧ ∀ xs, SqL K H a xs → xs[i]? = some x, fun i H => ∃ xs, SqL K H a xs ∧ xs.length ≤ i⟩
/-- lo, lo + 1, .. (n of them) -/
def Itr (lo : Int) (n : Nat) : It := ⟨fun i _ => i < n, fun i H x H' => H' = H ∧ x = .int (lo + i), fun i _ => n ≤ i⟩
theorem turn_list {P : Program} {w : World} {K : PySem.W.Frag} {tg : Expr} (a it : Addr) : Turn P w K tg (Itl K a) [it] it (fun i h => h.IsListIter it a i) where
  mem := by simp
  obj := fun i h st b hb => by
    have e : b = it := by simpa using hb
    subst e
    obtain ⟨o, e, c, d⟩ := st
    exact ⟨o, e, fun v z => by rw [d] at z; cases z⟩
  keep := fun i h h' st k => st.at fun o e => k it (by simp) o e
  item := by
    intro X hP hw hK hc i pins s σ H E I hf st hg
    subst hP hw hK
    obtain ⟨xs, x, hq, hx⟩ := hg
    obtain ⟨its, rv, p, hz⟩ := I.list hq
    obtain ⟨u, hu, ru⟩ := rv.get hx
    obtain ⟨f0, f1, f2, f3, f4, f5⟩ := hf it (by simp)
    refine wpAny_pyNext_list_item st p.isList (x := u) (by simpa using hu) fun h' st' sb => ?_
    have I1 : Inv X pins σ H { s with heap := h' } := I.turned (t' := s.toks) (fun b o hb e => (sb.2 b hb).trans e) f0 f1 f3 f4 f5
    obtain ⟨o, e, c, d⟩ := id st'
    exact ⟨u, rfl, go_of (s := { s with heap := h' }) e c d (by decide) ⟨x, H, I1, ru, ⟨rfl, fun ys hy => by rw [I.list_inj hy hq]; exact hx⟩, st', fun b hb => (hf b hb).1⟩⟩
  done := by
    intro X hP hw hK hc i pins s σ H E I hf st hg
    subst hP hw hK
    obtain ⟨xs, hq, hx⟩ := hg
    obtain ⟨its, rv, p, hz⟩ := I.list hq
    obtain ⟨f0, f1, f2, f3, f4, f5⟩ := hf it (by simp)
    have hl := rv.length
    exact wpAny_pyNext_list_end (I.ok.hd hc) st p.isList (by simp; omega) fun h' eb => ⟨rfl, I.turned (t' := s.toks) (fun b o hb e => eb b o hb e) f0 f1 f3 f4 f5⟩
  self := fun _ _ _ _ _ st h => wpAny_pyIter_listiter st h
theorem turn_range {P : Program} {w : World} {K : PySem.W.Frag} {tg : Expr} (it : Addr) (lo : Int) (n : Nat) : Turn P w K tg (Itr lo n) [it] it (fun i h => IsRangeIter h it (lo + (i : Nat) * 1) ((n : Int) - (i : Nat)) 1) where
  mem := by simp
  obj := fun i h st b hb => by
    have e : b = it := by simpa using hb
    subst e
    exact ⟨_, st, fun v z => by
      have z' : Data.fields _ = Data.cell v := z
      cases z'⟩
  keep := fun i h h' st k => k it (by simp) _ st
  item := by
    intro X hP hw hK hc i pins s σ H E I hf st hg
    subst hP hw hK
    obtain ⟨f0, f1, f2, f3, f4, f5⟩ := hf it (by simp)
    have W := Walks.range (prog := X.prog) (w := X.w) (I.ok.hd hc) it lo 1 n
    refine W.item i s _ _ hg st fun v h' tk hv st' kk => ?_
    obtain ⟨t, rfl⟩ := hv
    have I1 : Inv X pins σ H { s with heap := h', toks := tk } := I.turned (fun b o hb e => kk b o (by simpa using hb) e) f0 f1 f3 f4 f5
    refine ⟨_, rfl, go_of (s := { s with heap := h', toks := tk }) (n := "range_iterator") st' rfl rfl (by decide) ⟨.int (lo + i), H, I1, ⟨t, ?_⟩, ⟨rfl, rfl⟩, st', fun b hb => (hf b hb).1⟩⟩
    rw [Int.mul_one]
  done := by
    intro X hP hw hK hc i pins s σ H E I hf st hg
    subst hP hw hK
    obtain ⟨f0, f1, f2, f3, f4, f5⟩ := hf it (by simp)
    exact wpAny_pyNext_range_end (I.ok.hd hc) st (by have : n ≤ i := hg; omega) fun h' eb => ⟨rfl, I.turned (t' := s.toks) (fun b o hb e => eb b o hb e) f0 f1 f3 f4 f5⟩
  self := fun _ _ _ _ _ st h => wpAny_pyIter_rangeiter st h
end L2
namespace L2
open PySem PySem.Spec PyProof.Rows
section
variable {X : Cx} {tg : Expr}
def iList (K : PySem.W.Frag) (tl : TE) : TI := fun σ H R => tl σ H fun x H1 => ∃ a, x = .ref a ∧ (∃ xs, SqL K H1 a xs) ∧ R (Itl K a) H1
theorem pi_list {l : Expr} {tl : TE} (hl : PE X l tl) : PI X tg l (iList X.K tl) := by
  intro pins s σ H R I h
  refine thn (hl pins s σ H _ I h) fun v s1 ⟨x, H1, I1, r1, q1⟩ => ?_
  obtain ⟨a, e, ⟨xs, hq⟩, q⟩ := q1
  subst e
  cases r1
  obtain ⟨its, rv, p, hz⟩ := I1.list hq
  refine wpAny_pyIter_list p.isList ?_
  refine ⟨s1.heap.objs.size, [s1.heap.objs.size], _, _, H1, rfl, I1.kept (t' := s1.toks) fun b o e => Heap.get?_push_of_some _ e, turn_list a _, ⟨_, Heap.get?_push_size _ rfl, rfl, rfl⟩, fun b hb => ?_, q⟩
  have e : b = s1.heap.objs.size := by simpa using hb
  subst e
  exact I1.fpOk (Nat.le_refl _) (I1.hok.fresh (Nat.le_refl _))
/-- a range object just made, walked -/
theorem range_it {pins : List (Addr × Obj)} {σ : St} {H : Hp} {s : Shared} {R : It → Hp → Prop} {E : Value → Shared → Prop} {lo hi : Int} {t u v : Tok} {tk : Nat} (I : Inv X pins σ H s) (h1 : -(2 ^ 62) ≤ lo) (h2 : lo < 2 ^ 62) (h3 : -(2 ^ 62) ≤ hi) (h4 : hi < 2 ^ 62)
    (q : R (Itr lo (hi - lo).toNat) H) : wpAny (model X.prog X.w) X.A (pyIter (.ref s.heap.objs.size)) (PIE X pins σ tg R) E { s with heap := s.heap.push { cls := .type "range", data := .fields #[.int lo t, .int hi u, .int 1 v] }, toks := tk } := by
  refine wpAny_pyIter_range (IsRange.new ..) (small_one h1 h2 h3 h4) ?_
  have I1 : Inv X pins σ H { s with heap := s.heap.push { cls := .type "range", data := .fields #[.int lo t, .int hi u, .int 1 v] }, toks := tk } := I.kept fun b o e => Heap.get?_push_of_some _ e
  refine ⟨(s.heap.push { cls := .type "range", data := .fields #[.int lo t, .int hi u, .int 1 v] }).objs.size, [(s.heap.push { cls := .type "range", data := .fields #[.int lo t, .int hi u, .int 1 v] }).objs.size], _, _, H, rfl,
    I1.kept (t' := tk) fun b o e => Heap.get?_push_of_some _ e, turn_range _ lo (hi - lo).toNat, ?_, fun b hb => ?_, q⟩
  · have e1 : lo + ((0 : Nat) : Int) * 1 = lo := by simp
    have e2 : (((hi - lo).toNat : Nat) : Int) - ((0 : Nat) : Int) = Builtin.Range.rangeSize lo hi 1 := by rw [rangeSize_one]; split <;> omega
    show IsRangeIter _ _ (lo + ((0 : Nat) : Int) * 1) ((((hi - lo).toNat : Nat) : Int) - ((0 : Nat) : Int)) 1
    rw [e1, e2]
    exact Heap.get?_push_size _ rfl
  · have e : b = (s.heap.push { cls := .type "range", data := .fields #[.int lo t, .int hi u, .int 1 v] }).objs.size := by simpa using hb
    subst e
    exact I1.fpOk (Nat.le_refl _) (I1.hok.fresh (Nat.le_refl _))
def iRng1 (ta : TA) : TI := fun σ H R => ta σ H fun vs H1 => ∃ j : Int, vs = [.int j] ∧ -(2 ^ 62) ≤ j ∧ j < 2 ^ 62 ∧ R (Itr 0 j.toNat) H1
def iRng2 (ta : TA) : TI := fun σ H R => ta σ H fun vs H1 => ∃ i j : Int, vs = [.int i, .int j] ∧ (-(2 ^ 62) ≤ i ∧ i < 2 ^ 62 ∧ -(2 ^ 62) ≤ j ∧ j < 2 ^ 62) ∧ R (Itr i (j - i).toNat) H1
theorem pi_range1 {a : Expr} {ta : TA} {p pos : Pos} (hg : Gl X "range") (hm : X.mg "range" = none) (ha : PA X [a] ta) (hs : starEach [a] X.env = [(false, eval a X.env)] := by rfl) : PI X tg (.Call (.Name "range" p) [a] [] pos) (iRng1 ta) := by
  intro pins s σ H R I h
  refine Call_ (ld_blt I hg hm boot_range (PyProof.Rows.callWith_type1 (thn (ha pos pins s σ H _ I h) fun us s1 ⟨vs, H1, I1, r1, q1⟩ => ?_) hs rfl))
  obtain ⟨j, e, q1, q2, q⟩ := q1
  subst e
  cases r1 with
  | cons r rr =>
    cases rr
    obtain ⟨t, rfl⟩ := r
    exact call_range_1 (range_it I1 (by omega) (by omega) q1 q2 (by simpa using q))
theorem pi_range2 {a b : Expr} {ta : TA} {p pos : Pos} (hg : Gl X "range") (hm : X.mg "range" = none) (ha : PA X [a, b] ta) (hs : starEach [a, b] X.env = [(false, eval a X.env), (false, eval b X.env)] := by rfl) (hs2 : starEach [b] X.env = [(false, eval b X.env)] := by rfl) :
    PI X tg (.Call (.Name "range" p) [a, b] [] pos) (iRng2 ta) := by
  intro pins s σ H R I h
  refine Call_ (ld_blt I hg hm boot_range (PyProof.Rows.callWith_type1 (thn (ha pos pins s σ H _ I h) fun us s1 ⟨vs, H1, I1, r1, q1⟩ => ?_) (by rw [hs, hs2]) (by rw [hs2]; rfl)))
  obtain ⟨i, j, e, ⟨q1, q2, q3, q4⟩, q⟩ := q1
  subst e
  cases r1 with
  | cons r rr =>
    cases rr with
    | cons r' rr =>
      cases rr
      obtain ⟨t, rfl⟩ := r
      obtain ⟨t', rfl⟩ := r'
      exact call_range_2 (range_it I1 q1 q2 q3 q4 q)
/-! ### for -/
/-- W: the invariant by the turn and a measure; N: what the body is to reach -/
def tFor (wi : TI) (g : TG) (tb : TS) : TS := fun D σ H => wi σ H fun J H1 => ∃ W : Nat → Nat → St → Hp → Prop, (∃ m, W 0 m σ H1) ∧ ∀ i m σ H, W i m σ H →
  (J.stop i H ∧ D.nx σ H) ∨ (J.go i H ∧ ∃ N : St → Hp → Prop, (∀ σ' H', N σ' H' → ∃ m', m' < m ∧ W (i + 1) m' σ' H') ∧ ∀ x H', J.yld i H x H' → g x σ H' fun σ2 H2 => tb { D with nx := N, ct := N, bk := D.nx } σ2 H2)
/-- the records at fp as they stand -/
def pinsAt (fp : List Addr) (h : Heap) : List (Addr × Obj) := fp.filterMap fun b => (h.get? b).map fun o => (b, o)
theorem mem_pinsAt {fp : List Addr} {h : Heap} {b : Addr} {o : Obj} (hb : b ∈ fp) (e : h.get? b = some o) : (b, o) ∈ pinsAt fp h := List.mem_filterMap.mpr ⟨b, hb, by rw [e]; rfl⟩
theorem of_pinsAt {fp : List Addr} {h : Heap} {p : Addr × Obj} (hp : p ∈ pinsAt fp h) : p.1 ∈ fp ∧ h.get? p.1 = some p.2 := by
  obtain ⟨b, hb, e⟩ := List.mem_filterMap.mp hp
  cases q : h.get? b with
  | none => rw [q] at e; cases e
  | some o =>
    rw [q] at e
    have e' : (b, o) = p := Option.some.inj e
    subst e'
    exact ⟨hb, q⟩
theorem Inv.pinned {pins : List (Addr × Obj)} {σ : St} {H : Hp} {s : Shared} {fp : List Addr} (I : Inv X pins σ H s) (hf : ∀ b ∈ fp, FpOk X pins H b) (ho : ∀ b ∈ fp, ∃ o, s.heap.get? b = some o ∧ ∀ v, o.data ≠ .cell v) : Inv X (pins ++ pinsAt fp s.heap) σ H s :=
  I.pins_of fun p hp => (List.mem_append.mp hp).elim (fun z => I.pin p (List.mem_append_right _ z)) fun z => by
    obtain ⟨hb, e⟩ := of_pinsAt z
    obtain ⟨f0, f1, f2, _⟩ := hf p.1 hb
    obtain ⟨o, e', d⟩ := ho p.1 hb
    rw [e] at e'; cases e'
    exact ⟨e, f0, f1, f2, d⟩
theorem Inv.unpinned {pins pl : List (Addr × Obj)} {σ : St} {H : Hp} {s : Shared} (I : Inv X (pins ++ pl) σ H s) : Inv X pins σ H s := I.pins_of fun p hp => I.pin p (List.mem_append_right _ (List.mem_append_left _ hp))
theorem ps_for {iter : Expr} {body : List Stmt} {wi : TI} {g : TG} {tb : TS} {pos : Pos} (hp : PassesOwn (model X.prog X.w) X.A X.env X.xe) (hc : X.calm = true) (hi : PI X tg iter wi) (hg : PG X tg g) (hb : PSs X body tb)
    (hs : ∀ x, foldedSetIterable iter X.env x = pure x := by intro _; rfl) : PS X (.For tg iter body [] pos) (tFor wi g tb) := by
  intro pins s σ H D I h
  refine wpAny_For (thn (hi pins s σ H _ I h) fun v s1 h1 => thn h1 fun itv s2 h2 => ?_) hs
  obtain ⟨it, fp, tn, J, H2, e, I2, T, st2, f2, W, ⟨m0, w0⟩, turn⟩ := h2
  subst e
  -- what stays true of the iterator's objects through the loop
  have stat : ∀ {H' : Hp}, (∀ b ∈ fp, H' b = none) → ∀ b ∈ fp, FpOk X pins H' b := fun hn b hb => ⟨hn b hb, (f2 b hb).2⟩
  refine codeAny_forLoop_any (fun n s' => ∃ i σ' H', Inv X pins σ' H' s' ∧ tn i s'.heap ∧ (∀ b ∈ fp, H' b = none) ∧ W i n σ' H') ?_ m0 ⟨0, σ, H2, I2, st2, fun b hb => (f2 b hb).1, w0⟩
  rintro n s3 ⟨i, σ3, H3, I3, st3, fr3, w3⟩
  rcases turn i n σ3 H3 w3 with ⟨stop, qn⟩ | ⟨go, N, hN, step⟩
  · refine wpAny_passesOwn hp (thn (T.done X rfl rfl rfl hc i pins s3 σ3 H3 X.xe I3 (stat fr3) st3 stop) fun r s4 ⟨hr, I4⟩ => ?_)
    subst hr
    exact wpAny_execs_nil ⟨σ3, H3, I4, qn⟩
  · refine wpAny_passesOwn hp (thn (T.item X rfl rfl rfl hc i pins s3 σ3 H3 X.xe I3 (stat fr3) st3 go) fun r s4 ⟨u, hr, h4⟩ => ?_)
    subst hr
    refine wpAny_passesOwn hp (thn h4 fun _ s5 ⟨x, H5, I5, r5, y5, st5, fr5⟩ => ?_)
    have I5' := I5.pinned (stat fr5) (T.obj _ _ st5)
    refine wpAny_passesOwn hp (thn (hg _ s5 σ3 H5 x u _ I5' r5 (step x H5 y5)) fun _ s6 ⟨σ6, H6, I6, q6⟩ => ?_)
    refine wpAny_passesOwn hp (thn (hb _ s6 σ6 H6 _ I6 q6) fun f s7 q7 => ?_)
    have again : ∀ {σ7 : St} {H7 : Hp}, Inv X (pins ++ pinsAt fp s5.heap) σ7 H7 s7 → N σ7 H7 → ∃ m, m < n ∧ ∃ i σ' H', Inv X pins σ' H' s7 ∧ tn i s7.heap ∧ (∀ b ∈ fp, H' b = none) ∧ W i m σ' H' := fun {σ7 H7} I7 n7 => by
      obtain ⟨m', hm, w7⟩ := hN σ7 H7 n7
      refine ⟨m', hm, i + 1, σ7, H7, I7.unpinned, T.keep _ _ _ st5 fun b hb o e => (I7.pin (b, o) (List.mem_append_right _ (List.mem_append_right _ (mem_pinsAt hb e)))).1, fun b hb => ?_, w7⟩
      obtain ⟨o, e, d⟩ := T.obj _ _ st5 b hb
      exact (I7.pin (b, o) (List.mem_append_right _ (List.mem_append_right _ (mem_pinsAt hb e)))).2.1
    cases f with
    | next => obtain ⟨σ7, H7, I7, n7⟩ := q7; exact again I7 n7
    | cont => obtain ⟨σ7, H7, I7, n7⟩ := q7; exact again I7 n7
    | brk => obtain ⟨σ7, H7, I7, q7⟩ := q7; exact ⟨σ7, H7, I7.unpinned, q7⟩
    | ret v => obtain ⟨x7, σ7, H7, I7, r7, q7⟩ := q7; exact ⟨x7, σ7, H7, I7.unpinned, r7, q7⟩
end
/-! ### the forms one uses -/
/-- over a list that the body leaves as it is -/
theorem for_list {K : PySem.W.Frag} {a : Addr} {xs : List V} {g : TG} {tb : TS} {D : Ends} {σ : St} {H : Hp} (Pv : Nat → St → Hp → Prop) (h0 : Pv 0 σ H) (hl : ∀ i σ H, i ≤ xs.length → Pv i σ H → SqL K H a xs)
    (hs : ∀ i x σ H, xs[i]? = some x → Pv i σ H → g x σ H fun σ2 H2 => tb { D with nx := Pv (i + 1), ct := Pv (i + 1), bk := D.nx } σ2 H2) (hd : ∀ σ H, Pv xs.length σ H → D.nx σ H) :
    ∃ W : Nat → Nat → St → Hp → Prop, (∃ m, W 0 m σ H) ∧ ∀ i m σ H, W i m σ H →
      ((Itl K a).stop i H ∧ D.nx σ H) ∨ ((Itl K a).go i H ∧ ∃ N : St → Hp → Prop, (∀ σ' H', N σ' H' → ∃ m', m' < m ∧ W (i + 1) m' σ' H') ∧ ∀ x H', (Itl K a).yld i H x H' → g x σ H' fun σ2 H2 => tb { D with nx := N, ct := N, bk := D.nx } σ2 H2) := by
  refine ⟨fun i m σ H => m = xs.length - i ∧ i ≤ xs.length ∧ Pv i σ H, ⟨xs.length, by simp, Nat.zero_le _, h0⟩, ?_⟩
  rintro i m σ H ⟨rfl, hi, p⟩
  have q := hl i σ H hi p
  by_cases hlt : i < xs.length
  · refine .inr ⟨⟨xs, xs[i], q, by simp [hlt]⟩, Pv (i + 1), fun σ' H' p' => ⟨xs.length - (i + 1), by omega, rfl, hlt, p'⟩, fun x H' y => ?_⟩
    obtain ⟨e, y⟩ := y
    subst e
    exact hs i x σ _ (y xs q) p
  · have e : i = xs.length := by omega
    subst e
    exact .inl ⟨⟨xs, q, Nat.le_refl _⟩, hd σ H p⟩
theorem for_range {lo : Int} {n : Nat} {g : TG} {tb : TS} {D : Ends} {σ : St} {H : Hp} (Pv : Nat → St → Hp → Prop) (h0 : Pv 0 σ H)
    (hs : ∀ i σ H, i < n → Pv i σ H → g (.int (lo + i)) σ H fun σ2 H2 => tb { D with nx := Pv (i + 1), ct := Pv (i + 1), bk := D.nx } σ2 H2) (hd : ∀ σ H, Pv n σ H → D.nx σ H) :
    ∃ W : Nat → Nat → St → Hp → Prop, (∃ m, W 0 m σ H) ∧ ∀ i m σ H, W i m σ H →
      ((Itr lo n).stop i H ∧ D.nx σ H) ∨ ((Itr lo n).go i H ∧ ∃ N : St → Hp → Prop, (∀ σ' H', N σ' H' → ∃ m', m' < m ∧ W (i + 1) m' σ' H') ∧ ∀ x H', (Itr lo n).yld i H x H' → g x σ H' fun σ2 H2 => tb { D with nx := N, ct := N, bk := D.nx } σ2 H2) := by
  refine ⟨fun i m σ H => m = n - i ∧ i ≤ n ∧ Pv i σ H, ⟨n, by simp, Nat.zero_le _, h0⟩, ?_⟩
  rintro i m σ H ⟨rfl, hi, p⟩
  by_cases hlt : i < n
  · refine .inr ⟨hlt, Pv (i + 1), fun σ' H' p' => ⟨n - (i + 1), by omega, rfl, hlt, p'⟩, fun x H' y => ?_⟩
    obtain ⟨e, y⟩ := y
    subst e y
    exact hs i σ _ hlt p
  · have e : i = n := by omega
    subst e
    exact .inl ⟨Nat.le_refl _, hd σ H p⟩
/-- while, by a word and a measure of the state -/
theorem while_by {c : TT} {tb : TS} {D : Ends} {σ : St} {H : Hp} (Pv : St → Hp → Prop) (μ : St → Hp → Nat) (h0 : Pv σ H)
    (hs : ∀ σ H, Pv σ H → c σ H fun b H1 => if b = true then tb { D with nx := fun σ' H' => Pv σ' H' ∧ μ σ' H' < μ σ H, ct := fun σ' H' => Pv σ' H' ∧ μ σ' H' < μ σ H, bk := D.nx } σ H1 else D.nx σ H1)
    (mono : ∀ σ H Q Q', (∀ b H1, Q b H1 → Q' b H1) → c σ H Q → c σ H Q') : tWhile c tb D σ H := by
  refine ⟨fun m σ H => m = μ σ H ∧ Pv σ H, ⟨_, rfl, h0⟩, ?_⟩
  rintro m σ H ⟨rfl, p⟩
  refine mono σ H _ _ (fun b H1 q => ?_) (hs σ H p)
  cases b with
  | true => exact ⟨_, fun σ' H' ⟨p', l⟩ => ⟨_, l, rfl, p'⟩, q⟩
  | false => exact q
end L2
namespace L2
open PySem PySem.Spec PyProof.Rows
abbrev R2 := V → V → Hp → VK → Prop
/-- a two-place operation on values: f is binaryOp op, inplaceOp op or compareOp op -/
def OpR (X : Cx) (f : Value → Value → Sem Value) (r : R2) : Prop :=
  ∀ (pins : List (Addr × Obj)) (s : Shared) (σ : St) (H : Hp) (x y : V) (v u : Value) (Q : VK), Inv X pins σ H s → RelV x v → RelV y u → r x y H Q →
    wpAny (model X.prog X.w) X.A (f v u) (EP X pins σ Q) X.xe s
/-- a call of a value that is known (a builtin, a type) with values -/
def CallR (X : Cx) (f : Value) (r : List V → Hp → VK → Prop) : Prop :=
  ∀ (pins : List (Addr × Obj)) (s : Shared) (σ : St) (H : Hp) (xs : List V) (us : List Value) (Q : VK), Inv X pins σ H s → Vals xs us → r xs H Q →
    wpAny (model X.prog X.w) X.A (call f us) (EP X pins σ Q) X.xe s
def tOp (r : R2) (ta tb : TE) : TE := fun σ H Q => ta σ H fun x H1 => tb σ H1 fun y H2 => r x y H2 Q
inductive I0R (g : Int → Int → V) (x y : V) (H : Hp) (Q : VK) : Prop
  | mk (i j : Int) (e1 : x = .int i) (e2 : y = .int j) (q : Q (g i j) H) : I0R g x y H Q
def rI0 (g : Int → Int → V) : R2 := fun x y H Q => I0R g x y H Q
section
variable {X : Cx} {a b c : Expr} {ta tb tc : TE} {pos : Pos}
theorem binT (ha : PE X a ta) (hb : PE X b tb) {pins : List (Addr × Obj)} {s : Shared} {σ : St} {H : Hp} {R : V → V → Hp → Prop} (I : Inv X pins σ H s)
    (h : ta σ H fun x H1 => tb σ H1 fun y H2 => R x y H2) {Q : Value → Shared → Prop} {f : Value → Value → Sem Value}
    (hf : ∀ v u s2 x y H2, Inv X pins σ H2 s2 → RelV x v → RelV y u → R x y H2 → wpAny (model X.prog X.w) X.A (f v u) Q X.xe s2) :
    wpAny (model X.prog X.w) X.A (eval a X.env) (fun v s₁ => wpAny (model X.prog X.w) X.A (eval b X.env) (fun u s₂ => wpAny (model X.prog X.w) X.A (f v u) Q X.xe s₂) X.xe s₁) X.xe s := by
  refine thn (ha pins s σ H _ I h) fun v s1 ⟨x, H1, I1, r1, q1⟩ => ?_
  refine thn (hb pins s1 σ H1 _ I1 q1) fun u s2 ⟨y, H2, I2, r2, q2⟩ => ?_
  exact hf v u s2 x y H2 I2 r1 r2 q2
theorem pe_op {op : Operator} {r : R2} (ho : OpR X (binaryOp op) r) (ha : PE X a ta) (hb : PE X b tb) : PE X (.BinOp a op b pos) (tOp r ta tb) := by
  intro pins s σ H Q I h
  exact wpAny_BinOp (binT ha hb I h fun v u s2 x y H2 I2 rx ry q => ho pins s2 σ H2 x y v u Q I2 rx ry q)
/-! ### ints -/
theorem opI0 {f : Value → Value → Sem Value} {g : Int → Int → Int}
    (rule : ∀ (i j : Int) (t u : Tok) (s : Shared) (Q : Value → Shared → Prop) (E : Value → Shared → Prop), Q (.int (g i j) s.toks) { s with toks := s.toks + 1 } → wpAny (model X.prog X.w) X.A (f (.int i t) (.int j u)) Q E s) :
    OpR X f (rI0 fun i j => .int (g i j)) := by
  intro pins s σ H x y v u Q I rx ry h
  obtain ⟨i, j, rfl, rfl, q⟩ := h
  obtain ⟨t, rfl⟩ := rx
  obtain ⟨t', rfl⟩ := ry
  exact rule i j t t' s _ _ ⟨.int (g i j), H, I.tok _, ⟨_, rfl⟩, q⟩
theorem opB0 {f : Value → Value → Sem Value} {g : Int → Int → Bool}
    (rule : ∀ (i j : Int) (t u : Tok) (s : Shared) (Q : Value → Shared → Prop) (E : Value → Shared → Prop), Q (.bool (g i j)) s → wpAny (model X.prog X.w) X.A (f (.int i t) (.int j u)) Q E s) :
    OpR X f (rI0 fun i j => .bl (g i j)) := by
  intro pins s σ H x y v u Q I rx ry h
  obtain ⟨i, j, rfl, rfl, q⟩ := h
  obtain ⟨t, rfl⟩ := rx
  obtain ⟨t', rfl⟩ := ry
  exact rule i j t t' s _ _ ⟨.bl (g i j), H, I, rfl, q⟩
theorem op_add : OpR X (binaryOp .Add) (rI0 fun i j => .int (i + j)) := opI0 fun _ _ _ _ _ _ _ q => add_int q
theorem op_sub : OpR X (binaryOp .Sub) (rI0 fun i j => .int (i - j)) := opI0 fun _ _ _ _ _ _ _ q => sub_int q
/-! ### bools among ints: n += (a < b) -/
end
/-! ### comparisons -/
/-- the scalars that == tells apart as data does -/
def scal : V → V → Bool
  | .non, .non => true | .non, .int _ => true | .int _, .non => true | .non, .bl _ => true | .bl _, .non => true | .non, .str _ => true | .str _, .non => true
  | .int _, .int _ => true | .bl _, .bl _ => true | .str _, .str _ => true | .byt _, .byt _ => true
  | .int _, .str _ => true | .str _, .int _ => true | .bl _, .str _ => true | .str _, .bl _ => true
  | _, _ => false
def rEq : R2 := fun x y H Q => scal x y = true ∧ Q (.bl (decide (x = y))) H
theorem dec_int {i j : Int} : decide (V.int i = V.int j) = (i == j) := by
  rw [Bool.eq_iff_iff]
  simp
theorem dec_bl {i j : Bool} : decide (V.bl i = V.bl j) = (i == j) := by
  rw [Bool.eq_iff_iff]
  simp
theorem dec_str {i j : Str} : decide (V.str i = V.str j) = (i == j) := by
  rw [Bool.eq_iff_iff]
  simp
theorem dec_byt {i j : Array UInt8} : decide (V.byt i = V.byt j) = (i.toList == j.toList) := by
  rw [Bool.eq_iff_iff]
  cases i
  cases j
  simp
section
variable {X : Cx} {a b c : Expr} {ta tb tc : TE} {pos : Pos}
theorem fin_bl {pins : List (Addr × Obj)} {σ : St} {H : Hp} {s : Shared} {Q : VK} {k k' : Bool} (I : Inv X pins σ H s) (q : Q (.bl k) H) (e : k = k') : EP X pins σ Q (.bool k') s := by
  subst e
  exact ⟨.bl k, H, I, rfl, q⟩
theorem op_eq : OpR X (compareOp .Eq) rEq := by
  intro pins s σ H x y v u Q I rx ry h
  obtain ⟨hs, q⟩ := h
  cases x with
  | non =>
    cases rx
    cases y with
    | non => cases ry; exact PySem.EqNone.eq_none_none (fin_bl I q (by simp))
    | bl j => cases ry; exact PySem.EqNone.eq_none_bool (fin_bl I q (by simp))
    | int j => obtain ⟨t', rfl⟩ := ry; exact PySem.EqNone.eq_none_int (fin_bl I q (by simp))
    | str j => obtain ⟨t', rfl⟩ := ry; exact PySem.EqNone.eq_none_str (fin_bl I q (by simp))
    | _ => exact absurd (show false = true from hs) Bool.false_ne_true
  | bl i =>
    cases rx
    cases y with
    | non => cases ry; exact PySem.EqNone.eq_bool_none (fin_bl I q (by simp))
    | bl j => cases ry; exact eq_bool (fin_bl I q dec_bl)
    | str j => obtain ⟨t', rfl⟩ := ry; exact PySem.EqMixed.eq_bool_str (fin_bl I q (by simp))
    | _ => exact absurd (show false = true from hs) Bool.false_ne_true
  | int i =>
    obtain ⟨t, rfl⟩ := rx
    cases y with
    | non => cases ry; exact PySem.EqNone.eq_int_none (fin_bl I q (by simp))
    | int j => obtain ⟨t', rfl⟩ := ry; exact eq_int (fin_bl I q dec_int)
    | str j => obtain ⟨t', rfl⟩ := ry; exact PySem.EqMixed.eq_int_str (fin_bl I q (by simp))
    | _ => exact absurd (show false = true from hs) Bool.false_ne_true
  | str i =>
    obtain ⟨t, rfl⟩ := rx
    cases y with
    | non => cases ry; exact PySem.EqNone.eq_str_none (fin_bl I q (by simp))
    | bl j => cases ry; exact PySem.EqMixed.eq_str_bool (fin_bl I q (by simp))
    | int j => obtain ⟨t', rfl⟩ := ry; exact PySem.EqMixed.eq_str_int (fin_bl I q (by simp))
    | str j => obtain ⟨t', rfl⟩ := ry; exact eq_str (fin_bl I q dec_str)
    | _ => exact absurd (show false = true from hs) Bool.false_ne_true
  | byt i =>
    obtain ⟨t, rfl⟩ := rx
    cases y with
    | byt j => obtain ⟨t', rfl⟩ := ry; exact PySem.W.eq_bytes (fin_bl I q dec_byt)
    | _ => exact absurd (show false = true from hs) Bool.false_ne_true
  | _ => cases y <;> exact absurd (show false = true from hs) Bool.false_ne_true
theorem op_lt : OpR X (compareOp .Lt) (rI0 fun i j => .bl (decide (i < j))) := opB0 fun _ _ _ _ _ _ _ q => lt_int q
theorem op_le : OpR X (compareOp .LtE) (rI0 fun i j => .bl (decide (i ≤ j))) := opB0 fun _ _ _ _ _ _ _ q => le_int q
theorem op_gt : OpR X (compareOp .Gt) (rI0 fun i j => .bl (decide (j < i))) := opB0 fun _ _ _ _ _ _ _ q => gt_int q
theorem op_ge : OpR X (compareOp .GtE) (rI0 fun i j => .bl (decide (j ≤ i))) := opB0 fun _ _ _ _ _ _ _ q => ge_int q
theorem nomark (b : Expr) {op : CmpOp} (h : op ≠ .In := by decide) (h2 : op ≠ .NotIn := by decide) : behindInMarks op b = false := by
  have e1 : (op == CmpOp.In) = false := by cases op <;> first | rfl | exact absurd rfl h
  have e2 : (op == CmpOp.NotIn) = false := by cases op <;> first | rfl | exact absurd rfl h2
  cases b <;> simp [behindInMarks, e1, e2]
/-- a comparison as a value; hm: nomark b, or (for in, not in) by with_unfolding_all rfl -/
theorem pe_cmpR {op : CmpOp} {r : R2} (ho : OpR X (compareOp op) r) (ha : PE X a ta) (hb : PE X b tb) (hm : behindInMarks op b = false) : PE X (.Compare a [op] [b] pos) (tOp r ta tb) := by
  intro pins s σ H Q I h
  exact wpAny_Compare1 (binT ha hb I h fun v u s2 x y H2 I2 rx ry q => ho pins s2 σ H2 x y v u Q I2 rx ry q) hm
/-- a reading of a value as a test -/
def tTest (t : TE) : TT := fun σ H Q => t σ H fun x H' => BlR x H' Q
theorem pt_cmpR {op : CmpOp} {r : R2} (ho : OpR X (compareOp op) r) (ha : PE X a ta) (hb : PE X b tb) (hm : behindInMarks op b = false) : PT X (.Compare a [op] [b] pos) (tTest (tOp r ta tb)) := by
  intro pins s σ H Q I h
  refine wpAny_isTrue_Compare1 (thn (ha pins s σ H _ I h) fun v s1 ⟨x, H1, I1, r1, q1⟩ => thn (hb pins s1 σ H1 _ I1 q1) fun u s2 ⟨y, H2, I2, r2, q2⟩ =>
    thn (ho pins s2 σ H2 x y v u _ I2 r1 r2 q2) fun c s3 ⟨z, H3, I3, r3, k, e, q3⟩ => ?_) hm
  subst e
  cases r3
  exact wpAny_truthy_bool ⟨H3, I3, q3⟩
/-! ### truth -/
theorem line63 : (sizeLine : Nat) < 2 ^ 63 := by rw [sizeLine_eq]; decide
/-! ### strs and bytes -/
/-! ### scalar builtins, by CallR -/
theorem vals1 {x : V} {us : List Value} (r : Vals [x] us) : ∃ u, us = [u] ∧ RelV x u := by
  cases r with
  | cons r1 r2 => cases r2; exact ⟨_, rfl, r1⟩
theorem vals2 {x y : V} {us : List Value} (r : Vals [x, y] us) : ∃ u w', us = [u, w'] ∧ RelV x u ∧ RelV y w' := by
  cases r with
  | cons r1 r2 =>
    cases r2 with
    | cons r3 r4 => cases r4; exact ⟨_, _, rfl, r1, r3⟩
theorem call_min2 (hc : X.calm = true) : CallR X (.builtin "min") (fun xs H Q => ∃ i j, xs = [.int i, .int j] ∧ Q (.int (if j < i then j else i)) H) := by
  intro pins s σ H xs us Q I r h
  obtain ⟨i, j, rfl, q⟩ := h
  obtain ⟨u, w', rfl, ⟨t, rfl⟩, ⟨t', rfl⟩⟩ := vals2 r
  refine min_two_ints (I.ok.hd hc) fun h' tk k => ⟨_, H, I.kept k, ?_, q⟩
  by_cases hj : j < i
  · rw [if_pos hj, if_pos hj]; exact ⟨_, rfl⟩
  · rw [if_neg hj, if_neg hj]; exact ⟨_, rfl⟩
end
end L2
namespace L2
open PySem PySem.Spec PyProof.Rows
/-! ### an instance, its attributes a map -/
structure ObjM (h : Heap) (x dx C : Addr) (mA : Str → Option Value) : Prop where
  obj : h.get? x = some (PySem.W.instObj C dx)
  ns : h.Ns1 dx mA
  ne : dx ≠ x
theorem lookIn_ns {h : Heap} {dx : Addr} {mA : Str → Option Value} (n : h.Ns1 dx mA) : ∃ od, h.get? dx = some od ∧ ∀ name, PySem.W.lookIn name od = some (mA name) := by
  obtain ⟨o, es, ep, ho, hd, hk, _, hm⟩ := n
  refine ⟨o, ho, fun name => ?_⟩
  have e := hm name
  unfold nsFind findBy at e
  rw [← Array.find?_toList] at e
  unfold PySem.W.lookIn
  rw [hd]
  dsimp only
  split
  · rename_i y q
    rw [q] at e
    exact congrArg some e
  · rename_i q
    rw [q] at e
    have a : es.toList.any (·.refKey) = false := by
      rw [List.any_eq_false]
      intro y hy
      obtain ⟨z, t, hkey⟩ := hk y (Array.mem_toList_iff.mp hy)
      simp [DictEntry.refKey, hkey]
    have a' : ¬ es.toList.any (·.refKey) = true := by rw [a]; exact Bool.false_ne_true
    rw [if_neg a']
    exact congrArg some e
theorem ObjM.look {h : Heap} {x dx C : Addr} {mA : Str → Option Value} (I : ObjM h x dx C mA) : ∃ od, PySem.W.InstAt h x (PySem.W.instObj C dx) C (some od) ∧ ∀ name, PySem.W.lookIn name od = some (mA name) :=
  let ⟨od, ho, hl⟩ := lookIn_ns I.ns
  ⟨od, ⟨I.obj, rfl, rfl, ho⟩, hl⟩
section
variable {prog : Program} {w : World} {A : Around} {E : Value → Shared → Prop} {s : Shared} {K : PySem.W.Frag} {x dx C f : Addr} {mA : Str → Option Value} {name : Str} {v : Value}
theorem get_map {expr : Bool} {Q : Value → Shared → Prop} (X : K.In s.heap) (I : ObjM s.heap x dx C mA) (hg : PySem.W.plainGet K C name = true) (hh : PySem.W.hasDictIn K C = true)
    (ha : PySem.W.findIn K (.ref C) name = some none) (hv : mA name = some v) (hv' : PySem.W.handedIn v = true) (h : Q v { s with toks := s.toks + 1 }) :
    wpAny (model prog w) A (getAttr (.ref x) name expr) Q E s := by
  obtain ⟨od, J, hl⟩ := I.look
  exact PySem.W.get_value X J (PySem.W.plainGet_of hg).1 (PySem.W.findObj_own hh ha rfl (by rw [hl, hv])) hv' h
theorem set_map {ns : List Str} {Q : Unit → Shared → Prop} (X : K.In s.heap) (I : ObjM s.heap x dx C mA)
    (hs : PySem.W.findIn K (.ref C) "__setattr__" = some (some (.builtin "object.__setattr__"))) (hp : PySem.W.plainOver K C = true) (ht : PySem.W.takerIn K C name = some none) (hh : PySem.W.hasDictIn K C = true)
    (hw : PySem.Within mA ns) (hsz : ns.length ≤ sizeLine)
    (h : ∀ h', ObjM h' x dx C (fun y => if y = name then some v else mA y) → Heap.SameBut dx s.heap h' → Q () { s with heap := h', toks := s.toks + 2 }) :
    wpAny (model prog w) A (setAttr (.ref x) name v) Q E s := by
  obtain ⟨od, J, hl⟩ := I.look
  refine PySem.W.set_plain X J hs (PySem.W.osa_open (s := { s with toks := s.toks + 1 }) (r := none) X J hp ht fun b => ?_)
  obtain ⟨cd, hc, hd'⟩ := PySem.W.any_some hh
  have hx : s.heap.get? x = some ⟨.ref C, some dx, .plain, #[]⟩ := I.obj
  refine wpAny_bind (wpAny_pure (wpAny_bind (wpAny_bind (wpAny_loadPart hx (wpAny_bind (PySem.W.Looks.here (s := { s with toks := s.toks + 1 }) (PySem.W.looks_clsIn X hc) ?_))))))
  rw [hd']
  refine wpAny_pure (a := some dx) (wpAny_bind (wpAny_pure (wpAny_bind ?_)))
  refine wpAny_nsSet1 (s := { s with toks := s.toks + 1 }) I.ns fun h' hn2 hs2 => ?_
  obtain ⟨oD, esD, epD, hoD, hdD, hcD⟩ := hn2.count (PySem.Within.cons name v hw)
  refine wpAny_bind (wpAny_lookBehind hoD (by rw [hdD]; exact pastItsLine_dict (Nat.le_trans hcD (by rw [List.length_cons]; omega))) ?_)
  exact wpAny_pure (h _ ⟨(hs2.2 _ (Ne.symm I.ne)).trans I.obj, hn2, I.ne⟩ hs2)
/-- C(..): the dict at the heap's end, the instance behind it; then its __init__ -/
theorem make_map {R : Result → Shared → Prop} {vs : List Value} {kw : List (Str × Value)} (X : K.In s.heap) (hm : PySem.W.makesIn K C = true)
    (hi : PySem.W.findIn K (.ref C) "__init__" = some (some (.ref f))) (hf : PySem.W.typeIn K (.ref f) = some (.type "function"))
    (h : codeAny (model prog w) (A.under (.builtin "type.__call__" ⟨.ref C :: vs, kw⟩)) (.call (.ref f) ⟨.ref (s.heap.objs.size + 1) :: vs, kw⟩) (PySem.W.InitBack (s.heap.objs.size + 1) R)
      { s with heap := (s.heap.push PySem.W.emptyDict).push (PySem.W.instObj C s.heap.objs.size) }) :
    codeAny (model prog w) A (.call (.ref C) ⟨vs, kw⟩) R s := by
  obtain ⟨hh, g, d, t, os⟩ := s
  exact PySem.W.make_core (PySem.W.makes_of X hm) (PySem.W.looks_findIn X hi) (fun self => PySem.W.bind_fn X self hf) (.inl rfl) h
end
/-! ### the attributes as a list of pairs -/
def putF (f : Str) (v : V) : List (Str × V) → List (Str × V)
  | [] => [(f, v)]
  | (g, x) :: r => if g = f then (g, v) :: r else (g, x) :: putF f v r
theorem lookup_putF (f g : Str) (v : V) : ∀ fs : List (Str × V), (putF f v fs).lookup g = if g = f then some v else fs.lookup g
  | [] => by
    show List.lookup g [(f, v)] = _
    by_cases h : g = f
    · have hb : (g == f) = true := beq_iff_eq.mpr h
      simp only [List.lookup, hb, if_pos h]
    · have hb : (g == f) = false := beq_eq_false_iff_ne.mpr h
      simp only [List.lookup, hb, if_neg h]
  | (k, x) :: r => by
    have ih := lookup_putF f g v r
    rw [show putF f v ((k, x) :: r) = (if k = f then (k, v) :: r else (k, x) :: putF f v r) from rfl]
    by_cases hk : k = f
    · rw [if_pos hk]
      by_cases h : g = k
      · have hb : (g == k) = true := beq_iff_eq.mpr h
        simp only [List.lookup, hb, if_pos (h.trans hk)]
      · have hb : (g == k) = false := beq_eq_false_iff_ne.mpr h
        simp only [List.lookup, hb, if_neg (fun e : g = f => h (e.trans hk.symm))]
    · rw [if_neg hk]
      by_cases h : g = k
      · have hb : (g == k) = true := beq_iff_eq.mpr h
        simp only [List.lookup, hb, if_neg (fun e : g = f => hk (h.symm.trans e))]
      · have hb : (g == k) = false := beq_eq_false_iff_ne.mpr h
        simp only [List.lookup, hb]
        exact ih
theorem keys_putF (f : Str) (v : V) : ∀ fs : List (Str × V), f ∈ (putF f v fs).map (·.1) ∧ ∀ g, g ∈ fs.map (·.1) → g ∈ (putF f v fs).map (·.1)
  | [] => ⟨by simp [putF], fun g h => by simp at h⟩
  | (k, x) :: r => by
    obtain ⟨i1, i2⟩ := keys_putF f v r
    rw [show putF f v ((k, x) :: r) = (if k = f then (k, v) :: r else (k, x) :: putF f v r) from rfl]
    by_cases hk : k = f
    · rw [if_pos hk]
      subst hk
      exact ⟨by simp, fun g h => by simpa using h⟩
    · rw [if_neg hk]
      refine ⟨?_, fun g h => ?_⟩
      · rw [List.map_cons]
        exact List.mem_cons_of_mem _ i1
      · rw [List.map_cons] at h ⊢
        rcases List.mem_cons.mp h with e | e
        · exact List.mem_cons.mpr (.inl e)
        · exact List.mem_cons_of_mem _ (i2 g e)
theorem length_putF (f : Str) (v : V) : ∀ fs : List (Str × V), (putF f v fs).length ≤ fs.length + 1
  | [] => by simp [putF]
  | (k, x) :: r => by
    have ih := length_putF f v r
    rw [show putF f v ((k, x) :: r) = (if k = f then (k, v) :: r else (k, x) :: putF f v r) from rfl]
    by_cases hk : k = f
    · rw [if_pos hk, List.length_cons, List.length_cons]; omega
    · rw [if_neg hk, List.length_cons, List.length_cons]; omega
theorem RelO.some_of {v : V} {o : Option Value} (r : RelO (some v) o) : ∃ u, o = some u ∧ RelV v u := by
  cases o with
  | none => exact (show False from r).elim
  | some u => exact ⟨u, rfl, r⟩
theorem handed_of {v : V} {u : Value} (r : RelV v u) : PySem.W.handedIn u = true := by
  cases v with
  | non => cases (show u = Value.none from r); rfl
  | bl b => cases (show u = Value.bool b from r); rfl
  | int i => obtain ⟨t, e⟩ := (show ∃ t, u = Value.int i t from r); cases e; rfl
  | str x => obtain ⟨t, e⟩ := (show ∃ t, u = Value.str x t from r); cases e; rfl
  | byt b => obtain ⟨t, e⟩ := (show ∃ t, u = Value.bytes b t from r); cases e; rfl
  | flt b => obtain ⟨t, e⟩ := (show ∃ t, u = Value.float b t from r); cases e; rfl
  | ref a => cases (show u = Value.ref a from r); rfl
  | ty n => cases (show u = Value.type n from r); rfl
section
variable {P : Program} {w : World} {H H' : Hp} {h h' : Heap} {a C dx : Addr} {fs fs' : List (Str × V)}
theorem ins_get (hok : HOk P w H h) (e : H a = some (.ins C dx fs)) : ∃ mA, ObjM h a dx C mA ∧ (∀ f, RelO (fs.lookup f) (mA f)) ∧ PySem.Within mA (fs.map (·.1)) ∧ fs.length ≤ 1000 ∧ H dx = some (.own a) := by
  obtain ⟨d, z, ne, ob, mA, n, r, q⟩ := (show ObjOk P w H h a (.ins C dx fs) from hok a _ e)
  exact ⟨mA, ⟨ob, n, ne⟩, r, q, z, d⟩
end
/-! ### what of the text a class must have -/
structure Cls (K : PySem.W.Frag) (C : Addr) : Prop where
  pg : PySem.W.plainGet K C Str.empty = true
  hd : PySem.W.hasDictIn K C = true
  po : PySem.W.plainOver K C = true
  sa : PySem.W.findIn K (.ref C) "__setattr__" = some (some (.builtin "object.__setattr__"))
theorem Cls.get {K : PySem.W.Frag} {C : Addr} (c : Cls K C) (f : Str) : PySem.W.plainGet K C f = true := c.pg
/-- no class of it has the name -/
def NoAttr (K : PySem.W.Frag) (C : Addr) (f : Str) : Prop := PySem.W.findIn K (.ref C) f = some none
theorem NoAttr.taker {K : PySem.W.Frag} {C : Addr} {f : Str} (n : NoAttr K C f) : PySem.W.takerIn K C f = some none := by
  unfold PySem.W.takerIn
  rw [show PySem.W.findIn K (.ref C) f = some none from n]
  rfl
section
variable {X : Cx} {pins : List (Addr × Obj)} {σ : St} {H : Hp} {s : Shared} {a C dx : Addr} {fs : List (Str × V)} {f : Str} {v : V} {A : Around} {E : Value → Shared → Prop}
theorem getattr_ok {b : Bool} {Q : Value → Shared → Prop} (I : Inv X pins σ H s) (e : H a = some (.ins C dx fs)) (c : Cls X.K C) (n : NoAttr X.K C f) (l : fs.lookup f = some v)
    (h : ∀ u s', Inv X pins σ H s' → RelV v u → Q u s') : wpAny (model X.prog X.w) A (getAttr (.ref a) f b) Q E s := by
  obtain ⟨mA, O, r, _, _, _⟩ := ins_get I.hok e
  obtain ⟨u, hu, ru⟩ := RelO.some_of (v := v) (o := mA f) (by rw [← l]; exact r f)
  exact get_map I.kIn O (c.get f) c.hd n hu (handed_of ru) (h u _ (I.tok _) ru)
theorem setattr_ok {y : V} {u : Value} {Q : Unit → Shared → Prop} (I : Inv X pins σ H s) (e : H a = some (.ins C dx fs)) (c : Cls X.K C) (n : NoAttr X.K C f) (hl : fs.length < 1000) (ry : RelV y u)
    (h : ∀ s', Inv X pins σ (upd H a (.ins C dx (putF f y fs))) s' → Q () s') : wpAny (model X.prog X.w) A (setAttr (.ref a) f u) Q E s := by
  obtain ⟨mA, O, r, wi, _, ho⟩ := ins_get I.hok e
  have hz : (fs.map (·.1)).length ≤ sizeLine := by rw [List.length_map, sizeLine_eq]; omega
  refine set_map I.kIn O c.sa c.po n.taker c.hd wi hz fun h' O' sb => h _ ?_
  have hd : ∃ o, h'.get? dx = some o := let ⟨o, _, _, e', _⟩ := O'.ns; ⟨o, e'⟩
  refine I.write (x := a) (e := dx) (by rw [e]; exact True.intro) (.inr ho) (fun b q hb z => (sb.2 b hb).trans z) hd ?_
  refine ⟨by rw [upd_ne O.ne]; exact ho, ?_, O.ne, O'.obj, _, O'.ns, fun g => ?_, fun g hg => ?_⟩
  · have := length_putF f y fs; omega
  · show RelO ((putF f y fs).lookup g) (if g = f then some u else mA g)
    rw [lookup_putF]
    by_cases q : g = f
    · rw [if_pos q, if_pos q]; exact ry
    · rw [if_neg q, if_neg q]; exact r g
  · by_cases q : g = f
    · rw [q]; exact (keys_putF f y fs).1
    · refine (keys_putF f y fs).2 g (wi g fun z => hg ?_)
      show (if g = f then some u else mA g) = none
      rw [if_neg q]; exact z
/-- a new instance, tracked, without attributes -/
theorem Inv.made (I : Inv X pins σ H s) : Inv X pins σ (upd (upd H s.heap.objs.size (.own (s.heap.objs.size + 1))) (s.heap.objs.size + 1) (.ins C s.heap.objs.size []))
    { s with heap := (s.heap.push PySem.W.emptyDict).push (PySem.W.instObj C s.heap.objs.size) } := by
  have e1 : (s.heap.push PySem.W.emptyDict).get? s.heap.objs.size = some PySem.W.emptyDict := Heap.get?_push_size s.heap rfl
  have e2 : ((s.heap.push PySem.W.emptyDict).push (PySem.W.instObj C s.heap.objs.size)).get? (s.heap.objs.size + 1) = some (PySem.W.instObj C s.heap.objs.size) := by
    have := Heap.get?_push_size (s.heap.push PySem.W.emptyDict) (o := PySem.W.instObj C s.heap.objs.size) rfl
    rwa [Heap.size_push] at this
  have e3 : (s.heap.push PySem.W.emptyDict).Ns s.heap.objs.size (fun _ => none) := ⟨PySem.W.emptyDict, #[], _, e1, rfl, (fun e he => absurd he (by simp)), fun _ => rfl⟩
  have I1 := I.laid (a := s.heap.objs.size) (o := .own (s.heap.objs.size + 1)) (h' := s.heap.push PySem.W.emptyDict) (t' := s.toks) (fun b u q => Heap.get?_push_of_some _ q) (Nat.le_refl _) ⟨_, e1⟩
  refine I1.laid (a := s.heap.objs.size + 1) (o := .ins C s.heap.objs.size []) (t' := s.toks) (fun b u q => Heap.get?_push_of_some _ q) (Nat.le_of_eq (Heap.size_push _ _)) ?_
  have ne : s.heap.objs.size ≠ s.heap.objs.size + 1 := Nat.ne_of_lt (Nat.lt_succ_self _)
  refine ⟨by rw [upd_ne ne, upd_same], Nat.zero_le _, ne, e2, fun _ => none, (Heap.Ns1.of_empty e3).at fun o q => Heap.get?_push_of_some _ q, fun _ => True.intro, fun y hy => absurd rfl hy⟩
/-- e.f where nothing but the object is asked: through attributeBase (super) and the last hold -/
theorem attr_of {prog : Program} {w : World} {env : Env} {e : Expr} {f : Str} {pos : Pos} {s : Shared} {Q : Value → Shared → Prop} (hb : attributeBase e f env (eval e env) = eval e env)
    (h : wpAny (model prog w) A (eval e env) (fun o s₁ => wpAny (model prog w) A (getAttr o f true) Q E s₁) E s) : wpAny (model prog w) A (eval (.Attribute e f pos) env) Q E s :=
  Attribute_any_ h (by rw [arm_eval_Attribute, hb])
end
/-! ### readings and rules -/
/-- e.f, an attribute of the instance -/
inductive FldR (K : PySem.W.Frag) (f : Str) (x : V) (H1 : Hp) (Q : VK) : Prop
  | mk (a C dx : Addr) (fs : List (Str × V)) (v : V) (e : x = .ref a) (h : H1 a = some (.ins C dx fs)) (c : Cls K C) (n : NoAttr K C f) (l : fs.lookup f = some v) (q : Q v H1) : FldR K f x H1 Q
def tFld (K : PySem.W.Frag) (ta : TE) (f : Str) : TE := fun σ H Q => ta σ H fun x H1 => FldR K f x H1 Q
/-- e.f = value -/
def sFld (K : PySem.W.Frag) (ta tv : TE) (f : Str) : TS := fun D σ H => tv σ H fun y H1 => ta σ H1 fun x H2 => ∃ a C dx fs, x = .ref a ∧ H2 a = some (.ins C dx fs) ∧ Cls K C ∧ NoAttr K C f ∧ fs.length < 1000 ∧
  D.nx σ (upd H2 a (.ins C dx (putF f y fs)))
section
variable {X : Cx} {o e value : Expr} {f : Str} {pos pos' tpos : Pos} {ta tv : TE}
theorem pe_fld (he : PE X e ta) (hb : attributeBase e f X.env (eval e X.env) = eval e X.env) : PE X (.Attribute e f pos) (tFld X.K ta f) := by
  intro pins s σ H Q I h
  refine attr_of hb (thn (he pins s σ H _ I h) fun u s1 ⟨x, H1, I1, rx, a, C, dx, fs, v, ex, ea, c, n, l, q⟩ => ?_)
  subst ex
  obtain rfl : u = Value.ref a := rx
  exact getattr_ok I1 ea c n l fun u' s2 I2 ru => ⟨v, H1, I2, ru, q⟩
theorem ps_fld (ha : PE X o ta) (hv : PE X value tv) (hs : swapsWith value (some (.Attribute o f pos')) pos.line X.env = pure false) : PS X (.Assign [.Attribute o f pos'] value pos) (sFld X.K ta tv f) := by
  intro pins s σ H D I h
  refine plainObj_wpAny_Assign_Attribute (thn (hv pins s σ H _ I h) fun u s1 ⟨y, H1, I1, ry, q⟩ => thn (ha pins s1 σ H1 _ I1 q) fun ov s2 ⟨x, H2, I2, rx, a, C, dx, fs, ex, ea, c, n, l, q2⟩ => ?_) hs
  subst ex
  obtain rfl : ov = Value.ref a := rx
  exact setattr_ok I2 ea c n l ry fun s3 I3 => ⟨σ, _, I3, q2⟩
end
/-! ### isinstance -/
section
variable {X : Cx} {pins : List (Addr × Obj)} {σ : St} {H : Hp} {s : Shared} {A : Around} {E : Value → Shared → Prop} {Q : Value → Shared → Prop} {c : Value} {b : Bool}
end
end L2
namespace L2
open PySem PySem.Spec PyProof.Rows
/-! ### room -/
structure Room (k : Nat) (A : Around) : Prop where
  hd : A.handled = none
  dp : A.depth + 3 * k + 5 < recursionLimit
  un : A.units + 16 * k + 200 < cLine
theorem Room.mono {j k : Nat} {A : Around} (r : Room k A) (h : j ≤ k) : Room j A := ⟨r.hd, by have := r.dp; omega, by have := r.un; omega⟩
theorem Room.deeper {k : Nat} {A : Around} (r : Room (k + 1) A) (env : Env) : Room k (A.deeper env) :=
  ⟨r.hd, by have := r.dp; show A.depth + 1 + 3 * k + 5 < _; omega, by have := r.un; show A.units + 3 + 16 * k + 200 < _; omega⟩
theorem make_depth {A : Around} {C : Addr} {us : List Value} {kw : List (Str × Value)} : (A.under (.builtin "type.__call__" ⟨.ref C :: us, kw⟩)).depth = A.depth + 1 := by
  first | rfl | simp [Around.under, Code.weight, Code.isCreation, Code.isGuard, Code.isCaller, Code.frames, Code.isFrame, guardIds]
theorem make_units {A : Around} {C : Addr} {us : List Value} {kw : List (Str × Value)} : (A.under (.builtin "type.__call__" ⟨.ref C :: us, kw⟩)).units = A.units + 1 := by
  first | rfl | simp [Around.under, Code.cUnits, Code.frames, Code.isFrame]
theorem Room.make {k : Nat} {A : Around} (r : Room (k + 1) A) (C : Addr) (us : List Value) (kw : List (Str × Value)) : Room k (A.under (.builtin "type.__call__" ⟨.ref C :: us, kw⟩)) :=
  ⟨r.hd, by have := r.dp; rw [make_depth]; omega, by have := r.un; rw [make_units]; omega⟩
theorem Room.depth {k : Nat} {A : Around} (r : Room k A) : A.depth < recursionLimit := by have := r.dp; omega
theorem Room.units {k : Nat} {A : Around} (r : Room k A) : A.units + 64 < cLine := by have := r.un; omega
/-! ### argument lists and displays -/
def tNil : TA := fun _ H Q => Q [] H
def tCons (ta : TE) (tr : TA) : TA := fun σ H Q => ta σ H fun x H1 => tr σ H1 fun xs H2 => Q (x :: xs) H2
section
variable {X : Cx} {e : Expr} {es : List Expr} {te : TE} {t : TA} {pos : Pos}
theorem pa_nil : PA X [] tNil := fun _ _ _ _ H Q I h => Calls.spliced_nil ⟨[], H, I, .nil, h⟩
theorem pa_cons (ha : PE X e te) (hr : PA X es t) (hs : starEach (e :: es) X.env = (false, eval e X.env) :: starEach es X.env := by rfl) : PA X (e :: es) (tCons te t) := by
  intro pos pins s σ H Q I h
  rw [hs]
  show wpAny _ _ (spliced ((false, eval e X.env) :: backTo pos (starEach es X.env))) _ _ s
  refine Calls.spliced_cons (thn (ha pins s σ H _ I h) fun u s1 ⟨x, H1, I1, r1, q1⟩ => ?_)
  exact thn (hr pos pins s1 σ H1 _ I1 q1) fun us s2 ⟨xs, H2, I2, r2, q2⟩ => ⟨x :: xs, H2, I2, .cons r1 r2, q2⟩
/-- a tuple, a list of written items -/
def tTup (t : TA) : TE := fun σ H Q => t σ H fun xs H1 => xs.length ≤ sizeLine ∧ ∀ p, H1 p = none → Q (.ref p) (upd H1 p (.tup xs))
def tLst (t : TA) : TE := fun σ H Q => t σ H fun xs H1 => xs.length ≤ sizeLine ∧ ∀ p, H1 p = none → Q (.ref p) (upd H1 p (.lst xs))
theorem pe_tup {x1} (h : PA X es t) : PE X (.Tuple es x1 pos) (tTup t) := by
  intro pins s σ H Q I hq
  refine wpAny_Tuple_spliced (thn (h pos pins s σ H _ I hq) fun us s1 ⟨xs, H1, I1, r, z, q⟩ => ⟨by rw [← r.length]; exact z, ?_⟩)
  have hf : H1 s1.heap.objs.size = none := I1.hok.fresh (Nat.le_refl _)
  refine ⟨.ref s1.heap.objs.size, upd H1 s1.heap.objs.size (.tup xs), I1.laid (t' := s1.toks) (fun b u e => Heap.get?_push_of_some _ e) (Nat.le_refl _) ?_, rfl, q _ hf⟩
  exact ⟨z, us, r, ⟨_, Heap.get?_push_size _ rfl, rfl, _, rfl⟩⟩
theorem pe_lst (h : PA X es t) : PE X (.List es pos) (tLst t) := by
  intro pins s σ H Q I hq
  refine wpAny_List_spliced (thn (h pos pins s σ H _ I hq) fun us s1 ⟨xs, H1, I1, r, z, q⟩ => ⟨by rw [← r.length]; exact z, ?_⟩)
  have hf : H1 s1.heap.objs.size = none := I1.hok.fresh (Nat.le_refl _)
  refine ⟨.ref s1.heap.objs.size, upd H1 s1.heap.objs.size (.lst xs), I1.laid (t' := s1.toks) (fun b u e => Heap.get?_push_of_some _ e) (Nat.le_refl _) ?_, rfl, q _ hf⟩
  exact ⟨z, us, 0, r, Heap.get?_push_size _ rfl⟩
end
/-! ### what a def promises -/
/-- a def's promise: the bound arguments in the parameters' order, the heap, the wanted end, the wanted exception -/
abbrev Sp := List V → Hp → VK → XK → Prop
/-- how an exception lies behind a call (file 08 gives it): the callers' frames, abstract heap and state ahead of the call, the wish, the exception, the state -/
abbrev CXT := List Env → Hp → Shared → XK → Value → Shared → Prop
/-- the state at a call -/
structure Env0 (P : Program) (w : World) (K : PySem.W.Frag) (mg : Str → Option Value) (base : Heap) (A : Around) (outer : List Env) (s : Shared) (H : Hp) : Prop where
  frames : A.frames = some outer
  mod : Mod K mg base
  bs : ∀ b o, base.get? b = some o → s.heap.get? b = some o ∧ H b = none
  bsz : base.objs.size ≤ s.heap.objs.size
  funs : s.heap.FunFrames base outer
  frf : ∀ b ∈ frs outer, H b = none
  hok : HOk P w H s.heap
  bare : AllBare s.gens
/-- a call's end -/
def CE (outer : List Env) (P : Program) (w : World) (H : Hp) (s : Shared) (Q : VK) (u : Value) (s' : Shared) : Prop :=
  ∃ v H', s'.os = s.os ∧ AllBare s'.gens ∧ Un (frs outer) [] H H' s.heap s'.heap ∧ HOk P w H' s'.heap ∧ RelV v u ∧ Q v H'
def CR (CX : CXT) (outer : List Env) (P : Program) (w : World) (H : Hp) (s : Shared) (Q : VK) (E : XK) (r : Result) (s' : Shared) : Prop :=
  match r with
  | .ok (.ret u) => CE outer P w H s Q u s'
  | .ok _ => False
  | .error e => CX outer H s E e s'
structure FnOk (P : Program) (w : World) (K : PySem.W.Frag) (mg : Str → Option Value) (base : Heap) (CX : CXT) (k : Nat) (f : Addr) (fd : FuncData) (ps : List Str) (sp : Sp) : Prop where
  len : ∀ vs H Q E, sp vs H Q E → vs.length = ps.length
  run : ∀ (A : Around) (outer : List Env) (s : Shared) (H : Hp) (args : Args) (us : List Value) (vs : List V) (Q : VK) (E : XK), Room k A → Env0 P w K mg base A outer s H → BindsTo s fd args (ps.zip us) → Vals vs us → sp vs H Q E →
    codeAny (model P w) A (.call (.ref f) args) (CR CX outer P w H s Q E) s
theorem Env0.make {P : Program} {w : World} {K : PySem.W.Frag} {mg : Str → Option Value} {base : Heap} {A : Around} {outer : List Env} {s : Shared} {H : Hp} (e : Env0 P w K mg base A outer s H) (C : Addr) (us : List Value) (kw : List (Str × Value)) :
    Env0 P w K mg base (A.under (.builtin "type.__call__" ⟨.ref C :: us, kw⟩)) outer s H := ⟨by first | exact e.frames | (simpa [Around.under, Code.envs, Code.isFrame, pushEnvs] using e.frames), e.mod, e.bs, e.bsz, e.funs, e.frf, e.hok, e.bare⟩
section
variable {X : Cx} {pins : List (Addr × Obj)} {σ : St} {H : Hp} {s s' : Shared}
/-- from a body: what a callee wants -/
theorem Inv.env0 (I : Inv X pins σ H s) : Env0 X.prog X.w X.K X.mg X.base X.A X.stack s H :=
  ⟨I.ok.frames, I.ok.mod, I.bs, Nat.le_trans I.ok.bsz I.sz, I.stack, I.stkFree, I.hok, I.bare⟩
/-- behind a call -/
theorem Inv.after {Q : VK} {u : Value} (I : Inv X pins σ H s) (h : CE X.stack X.prog X.w H s Q u s') : EP X pins σ Q u s' := by
  obtain ⟨v, H', os, bare, un, hok, r, q⟩ := h
  obtain ⟨hh, g, d, t, os'⟩ := s'
  obtain rfl : os' = s.os := os
  exact ⟨v, H', I.call (h' := hh) (g' := g) (d' := d) (t' := t) (ch := []) un hok bare (fun b z => absurd z (by simp)), r, q⟩
end
/-! ### calls -/
/-- f(..): the written arguments, then the defaults dvs; E: what is wanted of an exception -/
def tCall (sp : Sp) (dvs : List V) (E : XK) (t : TA) : TE := fun σ H Q => t σ H fun vs H1 => sp (vs ++ dvs) H1 Q E
/-- C(..): a new instance and its dict, then __init__ -/
def tMake (C : Addr) (sp : Sp) (dvs : List V) (E : XK) (t : TA) : TE := fun σ H Q => t σ H fun vs H1 => ∀ x dx, H1 x = none → H1 dx = none → dx ≠ x →
  sp (.ref x :: (vs ++ dvs)) (upd (upd H1 dx (.own x)) x (.ins C dx [])) (fun v H2 => v = .non ∧ Q (.ref x) H2) E
/-- how the parameters are bound: us the positional arguments, kw the keywords' values by name, ds the defaults that fill up -/
def Binds (K : PySem.W.Frag) (fd : FuncData) (ps : List Str) (ds : List Value) : Prop :=
  ∀ (s : Shared) (us : List Value), K.In s.heap → (us ++ ds).length = ps.length → BindsTo s fd ⟨us, []⟩ (ps.zip (us ++ ds))
/-- every parameter is given -/
theorem Binds.all {K : PySem.W.Frag} {fd : FuncData} {ps : List Str} (h : ∀ us : List Value, us.length = ps.length → bindArgs fd ⟨us, []⟩ = pure (ps.zip us)) : Binds K fd ps [] := fun s us _ hl => by
  rw [List.append_nil] at hl ⊢
  exact .of_eq (h us hl)
/-- an exception of a callee reaches what this body wants of exceptions -/
def Passes (CX : CXT) (X : Cx) (E : XK) : Prop := ∀ (pins : List (Addr × Obj)) (σ : St) (H : Hp) (s : Shared) (e : Value) (s' : Shared), Inv X pins σ H s → CX X.stack H s E e s' → X.xe e s'
section
variable {X : Cx} {CX : CXT} {k : Nat} {f C : Addr} {fd : FuncData} {ps : List Str} {sp : Sp} {dvs : List V} {ds : List Value} {E : XK} {x m : Str} {p pos apos : Pos} {e o : Expr} {es : List Expr} {ta : TE} {t : TA}
/-- the callee runs -/
theorem run_fn {pins : List (Addr × Obj)} {σ : St} {H : Hp} {s : Shared} {Q : VK} {us : List Value} {vs : List V} (F : FnOk X.prog X.w X.K X.mg X.base CX k f fd ps sp) (hr : Room k X.A) (hb : Binds X.K fd ps ds) (hd : Vals dvs ds) (hx : Passes CX X E)
    (I : Inv X pins σ H s) (r : Vals vs us) (h : sp (vs ++ dvs) H Q E) : wpAny (model X.prog X.w) X.A (call (.ref f) us) (EP X pins σ Q) X.xe s := by
  have r2 : Vals (vs ++ dvs) (us ++ ds) := r.append hd
  have hl : (us ++ ds).length = ps.length := by rw [← r2.length]; exact F.len _ _ _ _ h
  refine wpAny_call (codeAny_mono (F.run X.A X.stack s H ⟨us, []⟩ (us ++ ds) (vs ++ dvs) Q E hr I.env0 (hb s us I.kIn hl) r2 h) fun r s' hq => ?_)
  cases r with
  | error e => exact hx pins σ H s e s' I hq
  | ok fl =>
    cases fl with
    | ret u => exact I.after hq
    | next => exact False.elim hq
    | brk => exact False.elim hq
    | cont => exact False.elim hq
theorem pe_call (F : FnOk X.prog X.w X.K X.mg X.base CX k f fd ps sp) (hr : Room k X.A) (hg : Gl X x) (hm : X.mg x = some (.ref f)) (hk : PySem.W.keepIn X.K (.ref f) = true) (hb : Binds X.K fd ps ds) (hd : Vals dvs ds) (hx : Passes CX X E)
    (ha : PA X (e :: es) t) (hdb : (x == ("__debug__" : Str)) = false := by decide) (he : starEach (e :: es) X.env = (false, eval e X.env) :: starEach es X.env := by rfl) (hpl : (backTo pos (starEach es X.env)).any (·.1) = false := by rfl) :
    PE X (.Call (.Name x p) (e :: es) [] pos) (tCall sp dvs E t) := by
  intro pins s σ H Q I h
  refine wpAny_Call_Name_kw (ld_glob I hg hm ?_ hdb)
  refine PySem.W.callWith_K (h₀ := X.base) I.ok.mod.kin hk (thn (ha pos pins s σ H _ I h) fun us s1 ⟨vs, H1, I1, r, q⟩ => ⟨I1.kIn, ?_⟩) he hpl
  exact run_fn F hr hb hd hx I1 r q
/-- what a class must have to be made -/
structure Mk (K : PySem.W.Frag) (C f : Addr) : Prop where
  makes : PySem.W.makesIn K C = true
  init : PySem.W.findIn K (.ref C) "__init__" = some (some (.ref f))
  fn : PySem.W.isFn K (.ref f) = true
  kp : PySem.W.keepIn K (.ref C) = true
theorem run_make {pins : List (Addr × Obj)} {σ : St} {H : Hp} {s : Shared} {Q : VK} {us : List Value} {vs : List V} (M : Mk X.K C f) (F : FnOk X.prog X.w X.K X.mg X.base CX k f fd ps sp) (hr : Room (k + 1) X.A) (hb : Binds X.K fd ps ds) (hd : Vals dvs ds)
    (hx : Passes CX X E) (I : Inv X pins σ H s) (r : Vals vs us)
    (h : ∀ x dx, H x = none → H dx = none → dx ≠ x → sp (.ref x :: (vs ++ dvs)) (upd (upd H dx (.own x)) x (.ins C dx [])) (fun v H2 => v = .non ∧ Q (.ref x) H2) E) :
    wpAny (model X.prog X.w) X.A (call (.ref C) us) (EP X pins σ Q) X.xe s := by
  have hq := h (s.heap.objs.size + 1) s.heap.objs.size (I.hok.fresh (Nat.le_succ _)) (I.hok.fresh (Nat.le_refl _)) (Nat.ne_of_lt (Nat.lt_succ_self _))
  have I2 := Inv.made (C := C) I
  have r2 : Vals (V.ref (s.heap.objs.size + 1) :: (vs ++ dvs)) (Value.ref (s.heap.objs.size + 1) :: (us ++ ds)) := .cons rfl (r.append hd)
  have hl : (Value.ref (s.heap.objs.size + 1) :: us ++ ds).length = ps.length := by
    have e := r2.length
    rw [F.len _ _ _ _ hq] at e
    exact e.symm
  refine wpAny_call (make_map (f := f) I.kIn M.makes M.init (beq_iff_eq.mp M.fn) (codeAny_mono (F.run _ X.stack _ _ ⟨Value.ref (s.heap.objs.size + 1) :: us, []⟩ (Value.ref (s.heap.objs.size + 1) :: (us ++ ds)) _ _ E (hr.make C us [])
    (I2.env0.make C us []) (hb _ (Value.ref (s.heap.objs.size + 1) :: us) I2.kIn hl) r2 hq) fun r s' hq' => ?_))
  cases r with
  | error e => exact hx pins σ _ _ e s' I2 hq'
  | ok fl =>
    cases fl with
    | ret u =>
      obtain ⟨v, H', I3, rv, ev, q3⟩ := I2.after hq'
      subst ev
      exact ⟨rv, ⟨V.ref (s.heap.objs.size + 1), H', I3, rfl, q3⟩⟩
    | next => exact False.elim hq'
    | brk => exact False.elim hq'
    | cont => exact False.elim hq'
theorem pe_make (M : Mk X.K C f) (F : FnOk X.prog X.w X.K X.mg X.base CX k f fd ps sp) (hr : Room (k + 1) X.A) (hg : Gl X x) (hm : X.mg x = some (.ref C)) (hb : Binds X.K fd ps ds) (hd : Vals dvs ds) (hx : Passes CX X E)
    (ha : PA X (e :: es) t) (hdb : (x == ("__debug__" : Str)) = false := by decide) (he : starEach (e :: es) X.env = (false, eval e X.env) :: starEach es X.env := by rfl) (hpl : (backTo pos (starEach es X.env)).any (·.1) = false := by rfl) :
    PE X (.Call (.Name x p) (e :: es) [] pos) (tMake C sp dvs E t) := by
  intro pins s σ H Q I h
  refine wpAny_Call_Name_kw (ld_glob I hg hm ?_ hdb)
  refine PySem.W.callWith_K (h₀ := X.base) I.ok.mod.kin M.kp (thn (ha pos pins s σ H _ I h) fun us s1 ⟨vs, H1, I1, r, q⟩ => ⟨I1.kIn, ?_⟩) he hpl
  exact run_make M F hr hb hd hx I1 r q
theorem pe_make0 (M : Mk X.K C f) (F : FnOk X.prog X.w X.K X.mg X.base CX k f fd ps sp) (hr : Room (k + 1) X.A) (hg : Gl X x) (hm : X.mg x = some (.ref C)) (hb : Binds X.K fd ps ds) (hd : Vals dvs ds) (hx : Passes CX X E)
    (hdb : (x == ("__debug__" : Str)) = false := by decide) : PE X (.Call (.Name x p) [] [] pos) (tMake C sp dvs E tNil) := by
  intro pins s σ H Q I h
  refine wpAny_Call_Name_kw (ld_glob I hg hm ?_ hdb)
  exact PySem.W.callWith_K0 I.kIn M.kp (run_make (us := []) M F hr hb hd hx I .nil h)
end
/-! ### keywords -/
/-- the values of the keywords, from the left -/
def PK (X : Cx) (kws : List Keyword) (t : TA) : Prop :=
  ∀ (pos : Pos) (pins : List (Addr × Obj)) (s : Shared) (σ : St) (H : Hp) (Q : List V → Hp → Prop), Inv X pins σ H s → t σ H Q → wpAny (model X.prog X.w) X.A (evalAll ((backToKw pos (keywordEach kws X.env)).map (·.2))) (AP X pins σ Q) X.xe s
section
variable {X : Cx} {CX : CXT} {k : Nat} {f C : Addr} {fd : FuncData} {ps ks : List Str} {sp : Sp} {E : XK} {x m : Str} {p pos apos kpos : Pos} {e o : Expr} {es : List Expr} {kws : List Keyword} {te ta : TE} {t tk : TA} {nm : Option Str}
theorem pk_nil : PK X [] tNil := fun _ _ _ _ H Q I h => wpAny_evalAll_nil ⟨[], H, I, .nil, h⟩
theorem pk_cons (ha : PE X e te) (hr : PK X kws t) : PK X (⟨nm, e, kpos⟩ :: kws) (tCons te t) := by
  intro pos pins s σ H Q I h
  show wpAny _ _ (evalAll ((do let v ← eval e X.env; standAt pos; pure v) :: (backToKw pos (keywordEach kws X.env)).map (·.2))) _ _ s
  refine wpAny_evalAll_cons (wpAny_bind (thn (ha pins s σ H _ I h) fun u s1 ⟨x, H1, I1, r1, q1⟩ => wpAny_bind (wpAny_standAt (wpAny_pure ?_))))
  exact thn (hr pos pins s1 σ H1 _ I1 q1) fun us s2 ⟨xs, H2, I2, r2, q2⟩ => ⟨x :: xs, H2, I2, .cons r1 r2, q2⟩
variable {g : List Value → List Value → List Value} {gV : List V → List V → List V}
end
/-! ### a def's body keeps its promise -/
/-- names: the parameters first -/
structure FnScope (N P : List Str) (sc : Scope) : Prop where
  kind : sc.kind = .function
  co : sc.isCoroutine = false
  gen : sc.isGenerator = false
  nd : N.Nodup
  pre : N.take P.length = P
  par : ∀ x ∈ P, sc.names.lookup x = some .local ∨ sc.names.lookup x = some .cell
  nofree : ∀ y ∈ sc.names, y.2 ≠ .free
theorem bindL_out {kindOf : Str → Option NameKind} {x : Str} : ∀ {binds : List (Str × Value)} {m : Str → Option Value}, (∀ v, (x, v) ∉ binds) → bindL kindOf binds m x = m x
  | [], _, _ => rfl
  | (n, v) :: r, m, h => by
    unfold bindL
    rw [bindL_out fun w hw => h w (List.mem_cons_of_mem _ hw)]
    split
    · have : x ≠ n := by rintro rfl; exact h v List.mem_cons_self
      simp [this]
    · rfl
theorem bindC_out {kindOf : Str → Option NameKind} {x : Str} : ∀ {binds : List (Str × Value)} {m : Str → Option Value}, (∀ v, (x, v) ∉ binds) → bindC kindOf binds m x = m x
  | [], _, _ => rfl
  | (n, v) :: r, m, h => by
    unfold bindC
    rw [bindC_out fun w hw => h w (List.mem_cons_of_mem _ hw)]
    split
    · rfl
    · have : x ≠ n := by rintro rfl; exact h v List.mem_cons_self
      simp [this]
theorem bindL_get {kindOf : Str → Option NameKind} {x : Str} {v : Value} : ∀ {P : List Str} {vs : List Value} {i : Nat} {m : Str → Option Value}, P.Nodup → P[i]? = some x → vs[i]? = some v → kindOf x = some .local →
    bindL kindOf (P.zip vs) m x = some v
  | [], _, _, _, _, h, _, _ => by simp at h
  | _ :: _, [], _, _, _, _, h, _ => by simp at h
  | p :: P, w :: vs, 0, m, nd, h1, h2, hk => by
    simp at h1 h2; subst h1; subst h2
    show bindL kindOf ((p, w) :: P.zip vs) m p = _
    unfold bindL
    rw [bindL_out fun v hv => (List.nodup_cons.mp nd).1 (List.of_mem_zip hv).1, if_pos hk]
    simp
  | p :: P, w :: vs, i + 1, m, nd, h1, h2, hk => by
    show bindL kindOf ((p, w) :: P.zip vs) m x = _
    unfold bindL
    exact bindL_get (i := i) (List.nodup_cons.mp nd).2 (by simpa using h1) (by simpa using h2) hk
theorem bindC_get {kindOf : Str → Option NameKind} {x : Str} {v : Value} : ∀ {P : List Str} {vs : List Value} {i : Nat} {m : Str → Option Value}, P.Nodup → P[i]? = some x → vs[i]? = some v → kindOf x ≠ some .local →
    bindC kindOf (P.zip vs) m x = some v
  | [], _, _, _, _, h, _, _ => by simp at h
  | _ :: _, [], _, _, _, _, h, _ => by simp at h
  | p :: P, w :: vs, 0, m, nd, h1, h2, hk => by
    simp at h1 h2; subst h1; subst h2
    show bindC kindOf ((p, w) :: P.zip vs) m p = _
    unfold bindC
    rw [bindC_out fun v hv => (List.nodup_cons.mp nd).1 (List.of_mem_zip hv).1, if_neg hk]
    simp
  | p :: P, w :: vs, i + 1, m, nd, h1, h2, hk => by
    show bindC kindOf ((p, w) :: P.zip vs) m x = _
    unfold bindC
    exact bindC_get (i := i) (List.nodup_cons.mp nd).2 (by simpa using h1) (by simpa using h2) hk
/-- the names' values at the entry -/
def start (N : List Str) (vs : List V) : St := vs.map some ++ List.replicate (N.length - vs.length) none
/-- the context of a def's body, at its entry; an exception leaves the frame, then lies as CX says -/
def cxOf (CX : CXT) (P : Program) (w : World) (K : PySem.W.Frag) (mg : Str → Option Value) (base : Heap) (N : List Str) (qual : Str) (scope : Scope) (f : Addr) (cd : Value) (A : Around) (outer : List Env) (s : Shared) (H : Hp) (E : XK) : Cx where
  prog := P
  w := w
  K := K
  mg := mg
  base := base
  A := A.deeper (envOfC qual scope s.heap.objs.size f cd)
  N := N
  s_0 := s
  H_0 := H
  env := envOfC qual scope s.heap.objs.size f cd
  outer := outer
  stack := envOfC qual scope s.heap.objs.size f cd :: outer
  ex := []
  calm := true
  fn := fun _ => true
  pn := []
  xe := fun e s' => wpAny (model P w) (A.deeper (envOfC qual scope s.heap.objs.size f cd)) (leaving (envOfC qual scope s.heap.objs.size f cd) e) (fun _ s'' => CX outer H s E e s'') (fun e' s'' => CX outer H s E e' s'') s'
theorem cell_has {sc : Scope} {n : Nat} {x : Str} (h : sc.names.lookup x = some .cell) : ∃ c, (cellsFrom n sc.names []).lookup x = some c := by
  have q := PySem.W.cellsFrom_some sc.names n [] (.inl h)
  exact Option.isSome_iff_exists.mp q
theorem inv_start {CX : CXT} {P : Program} {w : World} {K : PySem.W.Frag} {mg : Str → Option Value} {base : Heap} {N ps : List Str} {qual : Str} {scope : Scope} {f : Addr} {cd : Value} {A : Around} {outer : List Env} {s s1 : Shared} {H : Hp} {E : XK} {us : List Value} {vs : List V}
    (S : FnScope N ps scope) (hd : A.handled = none) (e0 : Env0 P w K mg base A outer s H) (hl : vs.length = ps.length) (r : Vals vs us)
    (x : InCallC s s.heap.objs.size (bindL (envOfC qual scope s.heap.objs.size f cd).kindOf (ps.zip us) fun _ => none) (cellsFrom (s.heap.objs.size + 1) scope.names []) (bindC (envOfC qual scope s.heap.objs.size f cd).kindOf (ps.zip us) fun _ => none) s1) :
    Inv (cxOf CX P w K mg base N qual scope f cd A outer s H E) [] (start N vs) H s1 := by
  have hpl : ps.length ≤ N.length := by have := congrArg List.length S.pre; rw [List.length_take] at this; omega
  obtain ⟨h1, tk, rfl, hk⟩ := x.done
  have noA : ∀ b : Addr, b ∉ (cxOf CX P w K mg base N qual scope f cd A outer s H E).ex := fun b z => absurd (show b ∈ ([] : List Addr) from z) (by simp)
  refine ⟨⟨e0.mod, S.kind, rfl, rfl, Nat.le_refl _, fun y z c h1 h2 => ?_, fun y hy => ?_, fun y c _ h => ?_, fun _ => hd, Around.frames_deeper e0.frames, .inr ⟨rfl, rfl⟩, fun b z => absurd z (noA b), e0.bs, e0.bsz, fun b _ _ => noA b, fun b z => absurd z (noA b), e0.funs, e0.frf⟩,
    rfl, e0.bare, Un.kept hk, ⟨_, x.toInCall.ns, fun i y v h1 h2 h3 => ?_⟩, fun y c h => ⟨_, x.cell y c h⟩, e0.hok.fresh (Nat.le_refl _), fun y c h => ?_, fun p hp => absurd (show p ∈ ([] : List (Addr × Obj)) from hp) (by simp), e0.hok.kept hk, ?_⟩
  · exact name_of_addr x.apart (PySem.mem_of_lookup h1) (PySem.mem_of_lookup h2)
  · have hy : scope.names.lookup y = some .cell ∨ scope.names.lookup y = some .free := hy
    rcases hy with hy | hy
    · exact cell_has hy
    · exact absurd rfl (S.nofree _ (PySem.mem_of_lookup hy))
  · exact Nat.le_of_lt (x.above y c (PySem.mem_of_lookup h))
  · have hi : i < vs.length := by
      unfold start at h2
      by_cases hi : i < vs.length
      · exact hi
      · rw [List.getElem?_append_right (by simpa using hi)] at h2
        rw [List.getElem?_replicate] at h2
        split at h2 <;> cases h2
    have ha : vs[i]? = some v := by
      unfold start at h2
      rw [List.getElem?_append_left (by simpa using hi), List.getElem?_map] at h2
      cases e : vs[i]? with
      | none => rw [e] at h2; cases h2
      | some a => rw [e] at h2; cases h2; rfl
    obtain ⟨u, hu, rv⟩ := r.get ha
    have hp : ps[i]? = some y := by
      rw [← S.pre, List.getElem?_take_of_lt (by omega)]; exact h1
    have ndP : ps.Nodup := by rw [← S.pre]; exact S.nd.sublist (List.take_sublist _ _)
    refine ⟨u, rv, ?_⟩
    rcases S.par y (List.mem_of_getElem? hp) with k | k
    · exact .inl ⟨k, bindL_get ndP hp hu k⟩
    · obtain ⟨c, e⟩ := cell_has (n := s.heap.objs.size + 1) k
      refine .inr ⟨.inl k, c, e, ?_⟩
      have q := x.cell y c e
      rw [bindC_get ndP hp hu (by show scope.names.lookup y ≠ _; rw [k]; decide)] at q
      exact q
  · exact e0.hok.fresh (Nat.le_of_lt (x.above y c (PySem.mem_of_lookup h)))
  · unfold start
    show _ = N.length
    rw [List.length_append, List.length_map, List.length_replicate]
    omega
/-- THE RULE: a def (or a method) of the text, by its body. The body's reading t is chosen for each entry; it is run at the parameters' values -/
theorem fn_of {CX : CXT} {P : Program} {w : World} {K : PySem.W.Frag} {mg : Str → Option Value} {base : Heap} {k : Nat} {f : Addr} {name qual : Str} {params : Arguments} {body : List Stmt} {scope : Scope} {dV kV doc pm cdv ct oc : Value} {an od : Option Addr}
    {osl : Array (Option Value)} {N ps : List Str} {sp : Sp} (lk : K.lookup f = some ⟨oc, od, .func (PySem.W.fnOf name qual params body scope dV kV doc pm an cdv ct), osl⟩) (hcd : PySem.W.codeIn K cdv qual = true) (S : FnScope N ps scope)
    (len : ∀ vs H Q E, sp vs H Q E → vs.length = ps.length)
    (hbody : ∀ (A : Around) (outer : List Env) (s : Shared) (H : Hp) (vs : List V) (Q : VK) (E : XK), Room k (A.deeper (envOfC qual scope s.heap.objs.size f cdv)) → sp vs H Q E →
      ∃ t, PSs (cxOf CX P w K mg base N qual scope f cdv A outer s H E) body t ∧ t { nx := fun _ H' => Q .non H', rt := Q } (start N vs) H) :
    FnOk P w K mg base CX (k + 1) f (PySem.W.fnOf name qual params body scope dV kV doc pm an cdv ct) ps sp := by
  refine ⟨len, fun A outer s H args us vs Q E hr e0 hb r hsp => ?_⟩
  have hl := len _ _ _ _ hsp
  have KX : K.In s.heap := e0.mod.kin.keeps fun b o e => (e0.bs b o e).1
  have lim : s.heap.NoLimit := e0.mod.nolimit.keeps fun b o e => (e0.bs b o e).1
  have hkind : ∀ y ∈ ps.zip us, scope.names.lookup y.1 = some .local ∨ (scope.names.lookup y.1 = some .cell ∧ ((cellsFrom (s.heap.objs.size + 1) scope.names []).lookup y.1).isSome = true) := fun ⟨n, v⟩ hy => by
    rcases S.par n (List.of_mem_zip hy).1 with q | q
    · exact .inl q
    · exact .inr ⟨q, PySem.W.cellsFrom_some _ _ _ (.inl q)⟩
  refine codeAny_call_function hr.depth (KX _ _ lk) rfl S.co S.gen rfl (PySem.W.codeRec_of KX hcd) (hb _ _ _ _ ?_)
  refine wpAny_newFunctionEnv_cells S.kind hkind fun env he s1 x => ?_
  subst he
  refine ⟨lim.keeps x.toInCall.keep, codeAny_func ?_⟩
  obtain ⟨t, ht, hq⟩ := hbody A outer s H vs Q E (hr.deeper _) hsp
  have I : Inv (cxOf CX P w K mg base N qual scope f cdv A outer s H E) [] (start N vs) H s1 := inv_start S hr.hd e0 hl r x
  refine wpAny_mono (ht [] s1 (start N vs) H _ I hq) (fun fl s' hs => ?_) fun e s' hs => hs
  have fin : ∀ {σ' : St} {H' : Hp} {v : V} {u : Value}, Inv (cxOf CX P w K mg base N qual scope f cdv A outer s H E) [] σ' H' s' → RelV v u → Q v H' → CE outer P w H s Q u s' :=
    fun {σ' H' v u} J rv q => ⟨v, H', J.os, J.bare, J.base, J.hok, rv, q⟩
  cases fl with
  | ret u =>
    obtain ⟨v, σ', H', J, rv, q⟩ := hs
    exact fin J rv q
  | next =>
    obtain ⟨σ', H', J, q⟩ := hs
    exact fin (v := V.non) (u := Value.none) J rfl q
  | brk =>
    obtain ⟨_, _, _, q⟩ := hs
    exact False.elim q
  | cont =>
    obtain ⟨_, _, _, q⟩ := hs
    exact False.elim q
end L2
namespace L2
open PySem PySem.Spec PyProof.Rows
section
variable {X : Cx} {x : Str} {p pos : Pos} {e : Expr} {es : List Expr} {t : TA} {id T : String} {r : List V → Hp → VK → Prop}
def tCB (r : List V → Hp → VK → Prop) (t : TA) : TE := fun σ H Q => t σ H fun vs H1 => r vs H1 Q
/-- f(e, ..), f a built-in function -/
theorem pe_callB (hc : CallR X (.builtin id) r) (hg : Gl X x) (hm : X.mg x = none) (hv : bootBuiltins x = some (.builtin id)) (ha : PA X (e :: es) t) (hn : x ≠ "__name__" := by decide) (hdb : (x == ("__debug__" : Str)) = false := by decide)
    (he : starEach (e :: es) X.env = (false, eval e X.env) :: starEach es X.env := by rfl) (hpl : (backTo pos (starEach es X.env)).any (·.1) = false := by rfl) : PE X (.Call (.Name x p) (e :: es) [] pos) (tCB r t) := by
  intro pins s σ H Q I h
  refine wpAny_Call_Name_kw (ld_blt I hg hm hv ?_ hn hdb)
  exact PyProof.Rows.callWith_builtin1 (thn (ha pos pins s σ H _ I h) fun us s1 ⟨vs, H1, I1, r1, q1⟩ => hc pins s1 σ H1 vs us Q I1 r1 q1) he hpl
/-- T(e, ..), T a built-in type -/
theorem pe_callTy (hc : CallR X (.type T) r) (hg : Gl X x) (hm : X.mg x = none) (hv : bootBuiltins x = some (.type T)) (ha : PA X (e :: es) t) (hn : x ≠ "__name__" := by decide) (hdb : (x == ("__debug__" : Str)) = false := by decide)
    (he : starEach (e :: es) X.env = (false, eval e X.env) :: starEach es X.env := by rfl) (hpl : (backTo pos (starEach es X.env)).any (·.1) = false := by rfl) : PE X (.Call (.Name x p) (e :: es) [] pos) (tCB r t) := by
  intro pins s σ H Q I h
  refine wpAny_Call_Name_kw (ld_blt I hg hm hv ?_ hn hdb)
  exact PyProof.Rows.callWith_type1 (thn (ha pos pins s σ H _ I h) fun us s1 ⟨vs, H1, I1, r1, q1⟩ => hc pins s1 σ H1 vs us Q I1 r1 q1) he hpl
end
end L2
namespace HT
open PySem PyProof.Rows
/-- t < u of tuples of ints -/
def lexLt : List Int → List Int → Bool
  | [], [] => false
  | [], _ :: _ => true
  | _ :: _, [] => false
  | x :: xs, y :: ys => if x = y then lexLt xs ys else decide (x < y)
theorem lexLt_cons (x y : Int) (xs ys : List Int) : lexLt (x :: xs) (y :: ys) = if x = y then lexLt xs ys else decide (x < y) := rfl
theorem lexLt_nil_nil : lexLt [] [] = false := rfl
theorem lexLt_nil_cons (y : Int) (ys : List Int) : lexLt [] (y :: ys) = true := rfl
theorem lexLt_cons_nil (x : Int) (xs : List Int) : lexLt (x :: xs) [] = false := rfl
theorem eqAt_int (A : Around) (s : Shared) (a : Int) (t : Tok) (c : Int) (u : Tok) : ∃ e, SeqAt.EqAt A s (.int a t) (.int c u) e ∧ (e = true ↔ a = c) :=
  ⟨(a == c), SeqAt.EqAt.int_int a t c u, by simp⟩
theorem rcLt_int (A : Around) (s : Shared) (a : Int) (t : Tok) (c : Int) (u : Tok) (prog : Program) (w : World) (E : Value → Shared → Prop) (Q : Value → Shared → Prop) (h : Q (.bool (decide (a < c))) s) :
    wpAny (model prog w) A (richCompare .Lt (.int a t) (.int c u)) Q E s :=
  (PyProof.Rows.lt_int h : wpAny (model prog w) A (compareOp .Lt (.int a t) (.int c u)) Q E s)
section
open PySem.SeqAt
open PySem.AutoSeq1 (wpAny_loadPart')
open PySem.MeetsSeq PySem.MeetsSeq2 PySem.MeetsSeq3
theorem tuple_lt_ints (l b : Addr) (items items2 : Array Value) (n n2 : Nat) (dd dd2 : Option Addr) (sl sl2 : Array (Option Value)) (ns ms : List Int) (hi : IntsAre items.toList ns) (hj : IntsAre items2.toList ms) :
    Meets (Builtin.«tuple.__lt__» ⟨[.ref l, .ref b], []⟩)
      (fun _ R s => s.heap.get? l = some { cls := .type "tuple", dict := dd, data := .seq items n, slots := sl } ∧ s.heap.get? b = some { cls := .type "tuple", dict := dd2, data := .seq items2 n2, slots := sl2 } ∧
        R (.ok (.ret (.bool (lexLt ns ms)))) s) :=
  .of_wp fun prog w A R s h => by
    obtain ⟨hp, g, d, tk, os⟩ := s; obtain ⟨hl, hb, h⟩ := h
    have f2 := AutoSeq1.sub_tuple_tuple
    have z1 : items.size = ns.length := by rw [← hi.length]; simp
    have z2 : items2.size = ms.length := by rw [← hj.length]; simp
    wp_walk using wpAny_loadPart' hl, wpAny_loadPart' hb, wpAny_forIn_list _ (fun rest b s' => b.1 = none ∧ s' = ⟨hp, g, d, tk, os⟩ ∧ ∃ (vs ws : List Value) (ns' ms' : List Int), rest = vs.zip ws ∧
      IntsAre vs ns' ∧ IntsAre ws ms' ∧ ns'.length + items2.size = ms'.length + items.size ∧ R (.ok (.ret (.bool (lexLt ns' ms')))) ⟨hp, g, d, tk, os⟩) _
    case turn =>
      rintro ⟨y, x⟩ rest b s' ⟨hb', rfl, vs, ws, ns', ms', hz, hvi, hwi, hlen, hR⟩
      cases hvi with
      | nil => rw [List.zip_nil_left] at hz; cases hz
      | cons a t hvi' =>
        cases hwi with
        | nil => rw [List.zip_nil_right] at hz; cases hz
        | cons c u hwi' =>
          rw [List.zip_cons_cons] at hz
          injection hz with hyx hrest
          injection hyx with hy hx
          subst hy hx
          rw [lexLt_cons] at hR
          simp only [List.length_cons] at hlen
          obtain ⟨e, he, hiff⟩ := eqAt_int A.in1 ⟨hp, g, d, tk, os⟩ a t c u
          refine wpAny_bind (he prog w _ _ ?_)
          cases e with
          | true =>
            rw [if_pos (hiff.mp rfl)] at hR
            wp_walk
            exact ⟨rfl, rfl, _, _, _, _, hrest, hvi', hwi', by omega, hR⟩
          | false =>
            rw [if_neg (fun q => absurd (hiff.mpr q) Bool.false_ne_true)] at hR
            have hri := rcLt_int A.in1 ⟨hp, g, d, tk, os⟩ a t c u prog w
            wp_walk using hri
            exact ⟨_, rfl, by simpa using hR⟩
    case fin =>
      rintro ⟨b1, b2⟩ s' ⟨hb', rfl, vs, ws, ns', ms', hz, hvi, hwi, hlen, hR⟩
      simp only at hb'
      subst hb'
      have hv : lexLt ns' ms' = decide (items.size < items2.size) := by
        cases hvi with
        | nil =>
          cases hwi with
          | nil =>
            simp only [List.length_nil] at hlen
            rw [lexLt_nil_nil]
            exact (decide_eq_false (by omega)).symm
          | cons c u hw =>
            simp only [List.length_nil, List.length_cons] at hlen
            rw [lexLt_nil_cons]
            exact (decide_eq_true (by omega)).symm
        | cons a t hv =>
          cases hwi with
          | nil =>
            simp only [List.length_nil, List.length_cons] at hlen
            rw [lexLt_cons_nil]
            exact (decide_eq_false (by omega)).symm
          | cons c u hw =>
            rw [List.zip_cons_cons] at hz
            cases hz
      rw [hv] at hR
      wp_walk
      exact ⟨_, rfl, by simpa [Builtin.Tuple.tupleCompareSizes] using hR⟩
    case h =>
      exact ⟨rfl, rfl, items.toList, items2.toList, ns, ms, rfl, hi, hj, by omega, h⟩
end
section
variable {prog : Program} {w : World} {A : Around} {E : Value → Shared → Prop} {s : Shared}
theorem lt_tupInts {l b : Addr} {items items2 : Array Value} {ns ms : List Int} {Q : Value → Shared → Prop} (hl : IsTup s.heap l items) (hb : IsTup s.heap b items2) (hi : IntsAre items.toList ns) (hj : IntsAre items2.toList ms)
    (hu : A.units < cLine) (h : Q (.bool (lexLt ns ms)) s) : wpAny (model prog w) A (compareOp .Lt (.ref l) (.ref b)) Q E s := by
  obtain ⟨⟨cls, dd, data, sl⟩, ho, hc, n, hd⟩ := id hl
  obtain ⟨⟨cls2, dd2, data2, sl2⟩, ho2, hc2, n2, hd2⟩ := id hb
  simp only at hc hd hc2 hd2
  subst hc hd hc2 hd2
  exact richCompare_meets_room (op := .Lt) ⟨_, ho, rfl⟩ ⟨_, ho2, rfl⟩ PySem.F.slot_tuple_lt PySem.F.entry_tuple_lt (PySem.F.args_tuple_lt_2 _ _) (tuple_lt_ints l b items items2 n n2 dd dd2 sl sl2 ns ms hi hj)
    ⟨ho, ho2, show Value.bool (lexLt ns ms) ≠ Value.notImplemented ∧ Q (.bool (lexLt ns ms)) s from ⟨(fun x => nomatch x), h⟩⟩ hu
/-! ### t[a:b], not the whole -/
/-- a slice's bound as a place among n (d where it is left out) -/
def sIx (n d : Nat) : Option Int → Nat
  | none => d
  | some v => if v < 0 then (v + (n : Int)).toNat else min v.toNat n
theorem sIx_nat (n d k : Nat) : sIx n d (some (k : Int)) = min k n := by
  show (if (k : Int) < 0 then ((k : Int) + (n : Int)).toNat else min (k : Int).toNat n) = min k n
  rw [if_neg (by omega), Int.toNat_natCast]
end
end HT
namespace L2
open PySem PySem.Spec PyProof.Rows
/-! ### the parts of a slice -/
abbrev TO := St → Hp → (Option Int → Hp → Prop) → Prop
/-- a slice's part (left out, or an int) -/
def PO (X : Cx) (e : Option Expr) (t : TO) : Prop :=
  ∀ (pins : List (Addr × Obj)) (s : Shared) (σ : St) (H : Hp) (Q : Option Int → Hp → Prop), Inv X pins σ H s → t σ H Q →
    wpAny (model X.prog X.w) X.A (evalPart e X.env) (fun u s' => ∃ o H', Inv X pins σ H' s' ∧ IsPart u o ∧ Q o H') X.xe s
def tNoPart : TO := fun _ H Q => Q none H
inductive PartR (x : V) (H : Hp) (Q : Option Int → Hp → Prop) : Prop
  | mk (i : Int) (e : x = .int i) (q : Q (some i) H) : PartR x H Q
def tPart (t : TE) : TO := fun σ H Q => t σ H fun x H1 => PartR x H1 Q
theorem intsAre_of {ns : List Int} : ∀ {us : List Value}, Vals (ns.map V.int) us → IntsAre us ns := by
  induction ns with
  | nil => intro us r; rw [List.map_nil] at r; cases r; exact .nil
  | cons n ns ih =>
    intro us r
    rw [List.map_cons] at r
    cases r with
    | cons r1 r2 =>
      obtain ⟨t, e⟩ := r1
      subst e
      exact .cons n t (ih r2)
section
variable {X : Cx} {e : Expr} {te : TE} {lo hi : Option Expr} {tl th : TO} {pos p2 : Pos}
theorem po_none : PO X none tNoPart := by
  intro pins s σ H Q I h
  rw [evalPart_none]
  exact wpAny_pure ⟨none, H, I, .none, h⟩
theorem po_some (h : PE X e te) : PO X (some e) (tPart te) := by
  intro pins s σ H Q I hw
  rw [evalPart_some]
  refine thn (h pins s σ H _ I hw) fun u s1 ⟨x, H1, I1, r1, q1⟩ => ?_
  obtain ⟨i, rfl, q⟩ := q1
  obtain ⟨t, rfl⟩ := r1
  exact ⟨some i, H1, I1, .int i t, q⟩
/-- what a slice of a value is, by values: the slice object stands at sl -/
def SlR (X : Cx) (r : V → Option Int → Option Int → Hp → VK → Prop) : Prop :=
  ∀ (pins : List (Addr × Obj)) (s : Shared) (σ : St) (H : Hp) (x : V) (v vl vu : Value) (lo hi : Option Int) (sl : Addr) (Q : VK), Inv X pins σ H s → RelV x v → s.heap.IsSliceOf sl vl vu .none → IsPart vl lo → IsPart vu hi → r x lo hi H Q →
    ∃ T id, typeLookup (.type T) "__getitem__" = pure (some (.builtin id)) ∧ s.TypeIs v T ∧ wpAny (model X.prog X.w) X.A (getItem v (.ref sl)) (EP X pins σ Q) X.xe s
def tSl (r : V → Option Int → Option Int → Hp → VK → Prop) (te : TE) (tl th : TO) : TE := fun σ H Q => te σ H fun x H1 => tl σ H1 fun l H2 => th σ H2 fun u H3 => r x l u H3 Q
/-- a[lo:hi], any a -/
theorem pe_slice {r : V → Option Int → Option Int → Hp → VK → Prop} (hr : SlR X r) (he : PE X e te) (hl : PO X lo tl) (hu : PO X hi th) : PE X (.Subscript e (.Slice lo hi none p2) pos) (tSl r te tl th) := by
  intro pins s σ H Q I h
  refine Subscript_ (thn (he pins s σ H _ I h) fun v s1 ⟨x, H1, I1, r1, q1⟩ => ?_)
  refine wpAny_Slice (thn (hl pins s1 σ H1 _ I1 q1) fun vl s2 ⟨l, H2, I2, pl, q2⟩ => thn (hu pins s2 σ H2 _ I2 q2) fun vu s3 ⟨u, H3, I3, pu, q3⟩ => ?_)
  rw [evalPart_none]
  refine wpAny_pure ?_
  have I4 : Inv X pins σ H3 { s3 with heap := s3.heap.push { cls := .type "slice", data := .fields #[vl, vu, .none] } } := I3.kept (t' := s3.toks) fun b ob q => Heap.get?_push_of_some _ q
  obtain ⟨T, id, hT, ht, hg⟩ := hr pins { s3 with heap := s3.heap.push { cls := .type "slice", data := .fields #[vl, vu, .none] } } σ H3 x v vl vu l u s3.heap.objs.size Q I4 r1 (Heap.IsSliceOf.new ..) pl pu q3
  show wpAny (model X.prog X.w) X.A (subscriptTail e (.Slice lo hi none p2) v (.ref s3.heap.objs.size)) (EP X pins σ Q) X.xe { s3 with heap := s3.heap.push { cls := .type "slice", data := .fields #[vl, vu, .none] } }
  exact tail_any (ops := [.ref s3.heap.objs.size, v]) ht hT hg (by with_unfolding_all rfl)
/-- the items of xs[lo:hi] -/
def cutV (xs : List V) (lo hi : Option Int) : List V := (xs.drop (HT.sIx xs.length 0 lo)).take (HT.sIx xs.length xs.length hi - HT.sIx xs.length 0 lo)
theorem cutV_length (xs : List V) (lo hi : Option Int) : (cutV xs lo hi).length ≤ xs.length := by
  unfold cutV
  rw [List.length_take, List.length_drop]
  omega
/-! ### t < u, t + u -/
end
end L2
namespace L2
open PySem PySem.Spec PyProof.Rows
/-! ### places -/
/-- the place that an index of any sign means -/
def ixN (n : Nat) (i : Int) : Option Nat := if 0 ≤ i then (if i < n then some i.toNat else none) else if -(n : Int) ≤ i then some (i + n).toNat else none
def atI {α : Type} (xs : List α) (i : Int) : Option α := (ixN xs.length i).bind fun j => xs[j]?
theorem ixN_seq {n : Nat} {i : Int} {j : Nat} (h : ixN n i = some j) : seqIndex? i n = some j ∧ j < n ∧ -(n : Int) ≤ i ∧ i < n := by
  unfold ixN at h
  by_cases h0 : 0 ≤ i
  · rw [if_pos h0] at h
    by_cases h1 : i < n
    · rw [if_pos h1] at h
      have e : i.toNat = j := Option.some.inj h
      exact ⟨by rw [seqIndex_of h0 h1, e], by omega, by omega, h1⟩
    · rw [if_neg h1] at h; cases h
  · rw [if_neg h0] at h
    by_cases h1 : -(n : Int) ≤ i
    · rw [if_pos h1] at h
      have e : (i + n).toNat = j := Option.some.inj h
      exact ⟨by rw [seqIndex_neg (by omega) h1, e], by omega, h1, by omega⟩
    · rw [if_neg h1] at h; cases h
theorem atI_get {α : Type} {xs : List α} {i : Int} {v : α} (h : atI xs i = some v) : ∃ j, seqIndex? i xs.length = some j ∧ xs[j]? = some v ∧ j < xs.length ∧ -(xs.length : Int) ≤ i ∧ i < xs.length := by
  unfold atI at h
  cases e : ixN xs.length i with
  | none => rw [e] at h; cases h
  | some j =>
    rw [e] at h
    obtain ⟨h1, h2, h3, h4⟩ := ixN_seq e
    exact ⟨j, h1, h, h2, h3, h4⟩
theorem atI_nat {α : Type} {xs : List α} {j : Nat} {v : α} (h : xs[j]? = some v) : atI xs (j : Int) = some v := by
  have hj : j < xs.length := (List.getElem?_eq_some_iff.mp h).1
  have e : ixN xs.length (j : Int) = some j := by
    unfold ixN
    rw [if_pos (by omega), if_pos (by omega)]; simp
  unfold atI; rw [e]; exact h
/-! ### what may be subscripted -/
/-- what stands as an index of a plain subscript -/
def PlainIx (b : Expr) : Prop := ∀ o i, subscripted b false o i = operate [o, i] (getItem o i)
/-- a subscript by values -/
def IxR (X : Cx) (r : R2) : Prop :=
  ∀ (value slice : Expr) (pins : List (Addr × Obj)) (s : Shared) (σ : St) (H : Hp) (x y : V) (v u : Value) (Q : VK), Inv X pins σ H s → RelV x v → RelV y u → r x y H Q →
    subscripted slice false v u = operate [v, u] (getItem v u) → wpAny (model X.prog X.w) X.A (subscriptTail value slice v u) (EP X pins σ Q) X.xe s
/-- a call of a builtin's method by values: the receiver, the arguments -/
def MtR (X : Cx) (id : String) (r : V → List V → Hp → VK → Prop) : Prop :=
  ∀ (pins : List (Addr × Obj)) (s : Shared) (σ : St) (H : Hp) (x : V) (xs : List V) (v : Value) (us : List Value) (Q : VK), Inv X pins σ H s → RelV x v → Vals xs us → r x xs H Q →
    wpAny (model X.prog X.w) X.A (call (.builtin id) (v :: us)) (EP X pins σ Q) X.xe s
section
variable {X : Cx} {a b : Expr} {ta tb : TE} {pos : Pos}
/-- a[b] -/
theorem pe_ix {r : R2} (hr : IxR X r) (ha : PE X a ta) (hb : PE X b tb) (hs : PlainIx b) : PE X (.Subscript a b pos) (tOp r ta tb) := by
  intro pins s σ H Q I h
  exact Subscript_ (binT ha hb I h fun v u s2 x y H2 I2 rx ry q => hr a b pins s2 σ H2 x y v u Q I2 rx ry q (hs _ _))
inductive IxR1 (S : Hp → Addr → List V → Prop) (x y : V) (H : Hp) (Q : VK) : Prop
  | mk (p : Addr) (xs : List V) (i : Int) (v : V) (e1 : x = .ref p) (e2 : y = .int i) (s : S H p xs) (a : atI xs i = some v) (q : Q v H) : IxR1 S x y H Q
def rIxL (K : PySem.W.Frag) : R2 := fun x y H Q => IxR1 (SqL K) x y H Q
def rIxT (K : PySem.W.Frag) : R2 := fun x y H Q => IxR1 (SqT K) x y H Q
theorem ix_list : IxR X (rIxL X.K) := by
  intro value slice pins s σ H x y v u Q I rx ry h hs
  obtain ⟨p, xs, i, z, rfl, rfl, hq, he, q⟩ := h
  cases rx
  obtain ⟨t, rfl⟩ := ry
  obtain ⟨its, r, pl, hz⟩ := I.list hq
  obtain ⟨j, h1, h2, h3, h4, h5⟩ := atI_get he
  obtain ⟨w, ew, rw'⟩ := r.get h2
  have hl := r.length
  have hn := line63
  have fin : EP X pins σ Q w s := ⟨z, H, I, rw', q⟩
  by_cases h0 : 0 ≤ i
  · have hj : i.toNat = j := by
      rw [seqIndex_of h0 h5] at h1
      exact Option.some.inj h1
    exact item_listR pl.isList h0 (by omega) (by rw [hj]; simpa using ew) fin hs
  · have hj : (i + (its.toArray.size : Int)).toNat = j := by
      rw [seqIndex_neg (by omega) h4] at h1
      rw [List.size_toArray, ← hl]
      exact Option.some.inj h1
    exact subscriptTail_builtinR (x := w) pl.isList.typeIs slot_list_getitem.lookup
      (wpAny_getItem_list_neg (Q := fun r s' => r = w ∧ EP X pins σ Q r s') pl.isList (by omega) (by rw [List.size_toArray] <;> omega) (by omega) (by rw [hj]; simpa using ew) ⟨rfl, fin⟩) hs
theorem ix_tup : IxR X (rIxT X.K) := by
  intro value slice pins s σ H x y v u Q I rx ry h hs
  obtain ⟨p, xs, i, z, rfl, rfl, hq, he, q⟩ := h
  cases rx
  obtain ⟨t, rfl⟩ := ry
  obtain ⟨its, r, pl, hz⟩ := I.tuple hq
  obtain ⟨j, h1, h2, h3, h4, h5⟩ := atI_get he
  obtain ⟨w, ew, rw'⟩ := r.get h2
  have hl := r.length
  have hn := line63
  have fin : EP X pins σ Q w s := ⟨z, H, I, rw', q⟩
  exact subscriptTail_builtinR (x := w) pl.typeIs slot_tuple_getitem.lookup
    (getItem_tuple (j := j) (Q := fun r s' => r = w ∧ EP X pins σ Q r s') pl (by omega) (by omega) (by rw [List.size_toArray, ← hl]; exact h1) (by simpa using ew) ⟨rfl, fin⟩) hs
/-! ### xs[i] = v, any sign -/
/-! ### slices -/
theorem slice_bounds (lo hi : Option Int) (n : Nat) : (sliceBounds lo hi none n).1 = ((HT.sIx n 0 lo : Nat) : Int) ∧ (sliceBounds lo hi none n).2.1 = ((HT.sIx n n hi : Nat) : Int) ∧ (sliceBounds lo hi none n).2.2 = 1 := by
  refine ⟨?_, ?_, rfl⟩
  · cases lo with
    | none => simp [sliceBounds, HT.sIx]
    | some i =>
      simp only [sliceBounds, HT.sIx, Option.getD_none, show (1 : Int) > 0 by decide, if_true]
      by_cases h : i < 0
      · simp only [h, if_true] <;> omega
      · simp only [h, if_false] <;> omega
  · cases hi with
    | none => simp [sliceBounds, HT.sIx]
    | some i =>
      simp only [sliceBounds, HT.sIx, Option.getD_none, show (1 : Int) > 0 by decide, if_true]
      by_cases h : i < 0
      · simp only [h, if_true] <;> omega
      · simp only [h, if_false] <;> omega
theorem slicePick_cut (its : List Value) (lo hi : Option Int) : slicePick its.toArray lo hi none = ((its.drop (HT.sIx its.length 0 lo)).take (HT.sIx its.length its.length hi - HT.sIx its.length 0 lo)).toArray := by
  obtain ⟨h1, h2, h3⟩ := slice_bounds lo hi its.toArray.size
  unfold slicePick
  rw [h1, h2, h3]
  simp only [sliceRange_one, pick_run, List.size_toArray] <;> rfl
/-- xs[lo:hi] of a list: a new list -/
def rSlL (K : PySem.W.Frag) : V → Option Int → Option Int → Hp → VK → Prop := fun x lo hi H Q => ∃ a xs, x = .ref a ∧ SqL K H a xs ∧ ∀ p, H p = none → Q (.ref p) (upd H p (.lst (cutV xs lo hi)))
theorem sl_list : SlR X (rSlL X.K) := by
  intro pins s σ H x v vl vu lo hi sl Q I rx hs pl pu h
  obtain ⟨a, xs, rfl, hx, q⟩ := h
  cases rx
  obtain ⟨its, r, ht, hz⟩ := I.list hx
  have hlen := r.length
  refine ⟨"list", _, slot_list_getitem.lookup, ht.isList.typeIs, ?_⟩
  refine wpAny_getItem_list_slice ht.isList hs pl pu .none (by simp) ?_ (by rw [List.size_toArray] <;> omega)
  rw [slicePick_cut, ← hlen]
  refine ⟨.ref s.heap.objs.size, _, I.laid (t' := s.toks) (o := .lst (cutV xs lo hi)) (fun b ob q => Heap.get?_push_of_some _ q) (Nat.le_refl _) ?_, rfl, q _ (I.hok.fresh (Nat.le_refl _))⟩
  exact ⟨Nat.le_trans (cutV_length xs lo hi) hz, _, 0, (r.drop (HT.sIx xs.length 0 lo)).take (HT.sIx xs.length xs.length hi - HT.sIx xs.length 0 lo), Heap.get?_push_size _ rfl⟩
/-! ### in, not in: flat items -/
def flatV : V → Bool
  | .non => true
  | .bl _ => true
  | .int _ => true
  | .str _ => true
  | _ => false
/-- == of flat values -/
def eqV : V → V → Bool
  | .non, .non => true
  | .bl a, .bl b => a == b
  | .bl a, .int b => (if a then 1 else 0) == b
  | .int a, .bl b => a == (if b then 1 else 0)
  | .int a, .int b => a == b
  | .str a, .str b => a == b
  | _, _ => false
theorem eqAt_V {A : Around} {s : Shared} {y x : V} {u v : Value} (ry : RelV y u) (rx : RelV x v) (fy : flatV y = true) (fx : flatV x = true) : SeqAt.EqAt A s u v (eqV y x) := by
  cases y with
  | non =>
    cases ry
    cases x with
    | non => cases rx; exact SeqAt.EqAt.same _
    | bl b => cases rx; exact SeqAt.EqAt.none_bool b
    | int b => obtain ⟨t, rfl⟩ := rx; exact SeqAt.EqAt.none_int b t
    | str b => obtain ⟨t, rfl⟩ := rx; exact SeqAt.EqAt.none_str b t
    | _ => exact absurd (show false = true from fx) Bool.false_ne_true
  | bl a =>
    cases ry
    cases x with
    | non => cases rx; exact SeqAt.EqAt.bool_none a
    | bl b => cases rx; exact SeqAt.EqAt.bool_bool a b
    | int b => obtain ⟨t, rfl⟩ := rx; exact SeqAt.EqAt.bool_int a b t
    | str b => obtain ⟨t, rfl⟩ := rx; exact SeqAt.EqAt.bool_str a b t
    | _ => exact absurd (show false = true from fx) Bool.false_ne_true
  | int a =>
    obtain ⟨t', rfl⟩ := ry
    cases x with
    | non => cases rx; exact SeqAt.EqAt.int_none a t'
    | bl b => cases rx; exact SeqAt.EqAt.int_bool a t' b
    | int b => obtain ⟨t, rfl⟩ := rx; exact SeqAt.EqAt.int_int a t' b t
    | str b => obtain ⟨t, rfl⟩ := rx; exact SeqAt.EqAt.int_str a t' b t
    | _ => exact absurd (show false = true from fx) Bool.false_ne_true
  | str a =>
    obtain ⟨t', rfl⟩ := ry
    cases x with
    | non => cases rx; exact SeqAt.EqAt.str_none a t'
    | bl b => cases rx; exact SeqAt.EqAt.str_bool a t' b
    | int b => obtain ⟨t, rfl⟩ := rx; exact SeqAt.EqAt.str_int a t' b t
    | str b => obtain ⟨t, rfl⟩ := rx; exact SeqAt.EqAt.str_str a t' b t
    | _ => exact absurd (show false = true from fx) Bool.false_ne_true
  | _ => exact absurd (show false = true from fy) Bool.false_ne_true
/-- the items' answers, read off the values (a value's own answer does not lean on its token) -/
def eqU (x : V) (u : Value) : Bool := match u with
  | .none => eqV .non x
  | .bool b => eqV (.bl b) x
  | .int i _ => eqV (.int i) x
  | .str z _ => eqV (.str z) x
  | _ => false
theorem eqU_of {x y : V} {u : Value} (r : RelV y u) (f : flatV y = true) : eqU x u = eqV y x := by
  cases y with
  | non => cases r; rfl
  | bl b => cases r; rfl
  | int i => obtain ⟨t, rfl⟩ := r; rfl
  | str z => obtain ⟨t, rfl⟩ := r; rfl
  | _ => exact absurd (show false = true from f) Bool.false_ne_true
theorem any_eqU {x : V} : ∀ {xs : List V} {us : List Value}, Vals xs us → xs.all flatV = true → us.any (eqU x) = xs.any fun y => eqV y x
  | _, _, .nil, _ => rfl
  | y :: xs, u :: us, .cons r t, f => by
    rw [List.all_cons, Bool.and_eq_true] at f
    rw [List.any_cons, List.any_cons, eqU_of r f.1, any_eqU t f.2]
theorem mem_eqAt {A : Around} {s : Shared} {x : V} {v : Value} (rx : RelV x v) (fx : flatV x = true) : ∀ {xs : List V} {us : List Value}, Vals xs us → xs.all flatV = true → ∀ u ∈ us, SeqAt.EqAt A s u v (eqU x u)
  | _, _, .nil, _ => fun u hu => by cases hu
  | y :: xs, u :: us, .cons r t, f => fun u' hu => by
    rw [List.all_cons, Bool.and_eq_true] at f
    rcases List.mem_cons.mp hu with rfl | hu
    · rw [eqU_of r f.1]; exact eqAt_V r rx f.1 fx
    · exact mem_eqAt rx fx t f.2 u' hu
def inV (x : V) (xs : List V) : Bool := xs.any fun y => eqV y x
/-- x in a list or tuple of flat items -/
def rIn (K : PySem.W.Frag) (neg : Bool) : R2 := fun x y H Q => ∃ p xs, y = .ref p ∧ (SqL K H p xs ∨ SqT K H p xs) ∧ flatV x = true ∧ xs.all flatV = true ∧ Q (.bl (if neg then !inV x xs else inV x xs)) H
theorem op_in_seq : OpR X (compareOp .In) (rIn X.K false) := by
  intro pins s σ H x y v u Q I rx ry h
  obtain ⟨p, xs, rfl, hq, fx, fs, q⟩ := h
  cases ry
  rcases hq with hq | hq
  · obtain ⟨its, r, pl, hz⟩ := I.list hq
    refine SeqAt.in_listAt (eqU x) pl.isList (fun w hw => mem_eqAt rx fx r fs w (by simpa using hw)) ⟨.bl _, H, I, rfl, ?_⟩
    rw [show its.toArray.any (eqU x) = its.any (eqU x) by simp, any_eqU r fs]
    exact q
  · obtain ⟨its, r, pl, hz⟩ := I.tuple hq
    refine SeqAt.in_tupleAt (eqU x) pl (fun w hw => mem_eqAt rx fx r fs w (by simpa using hw)) ⟨.bl _, H, I, rfl, ?_⟩
    rw [show its.toArray.any (eqU x) = its.any (eqU x) by simp, any_eqU r fs]
    exact q
/-! ### len, list(x), tuple(x) of any list or tuple that is read -/
inductive LenR (K : PySem.W.Frag) (xs : List V) (H : Hp) (Q : VK) : Prop
  | mk (p : Addr) (ys : List V) (e : xs = [.ref p]) (s : SqL K H p ys ∨ SqT K H p ys) (q : Q (.int ys.length) H) : LenR K xs H Q
theorem call_len_seq : CallR X (.builtin "len") (fun xs H Q => LenR X.K xs H Q) := by
  intro pins s σ H xs us Q I r h
  obtain ⟨p, ys, rfl, hq, q⟩ := h
  obtain ⟨u, rfl, rx⟩ := vals1 r
  cases rx
  have hn := line63
  rcases hq with hq | hq
  · obtain ⟨its, r', pl, hz⟩ := I.list hq
    have hlen := r'.length
    exact Calls.call_len_list pl.isList (by simp only [List.size_toArray] <;> omega) ⟨.int ys.length, H, I.tok _, ⟨s.toks + 1, by rw [List.size_toArray, hlen]⟩, q⟩
  · obtain ⟨its, r', pl, hz⟩ := I.tuple hq
    have hlen := r'.length
    exact len_tuple pl (by simp only [List.size_toArray] <;> omega) ⟨.int ys.length, H, I.tok _, ⟨s.toks + 1, by rw [List.size_toArray, hlen]⟩, q⟩
theorem call_list_of : CallR X (.type "list") (fun xs H Q => ∃ p ys, xs = [.ref p] ∧ (SqL X.K H p ys ∨ SqT X.K H p ys) ∧ ∀ l, H l = none → Q (.ref l) (upd H l (.lst ys))) := by
  intro pins s σ H xs us Q I r h
  obtain ⟨p, ys, rfl, hq, q⟩ := h
  obtain ⟨u, rfl, rx⟩ := vals1 r
  cases rx
  have fin : ∀ (its : List Value), Vals ys its → ys.length ≤ sizeLine → ∀ (h' : Heap) (c' : Nat), (∀ b o', s.heap.get? b = some o' → h'.get? b = some o') →
      h'.get? s.heap.objs.size = some { cls := .type "list", dict := none, data := .seq its.toArray c', slots := #[] } → EP X pins σ Q (.ref s.heap.objs.size) { s with heap := h' } := fun its r' hz h' c' kp e =>
    ⟨.ref s.heap.objs.size, _, I.laid (t' := s.toks) kp (Nat.le_refl _) (show ObjOk X.prog X.w _ h' _ (.lst ys) from ⟨hz, its, c', r', e⟩), rfl, q _ (I.hok.fresh (Nat.le_refl _))⟩
  rcases hq with hq | hq
  · obtain ⟨its, r', pl, hz⟩ := I.list hq
    have hlen := r'.length
    obtain ⟨o, ho, hc, n, hd⟩ := pl.isList
    exact call_list_seq p (.inl rfl) ho hc hd (fun h' c' kp e => fin its r' hz h' c' kp e) (by simp only [List.size_toArray] <;> omega)
  · obtain ⟨its, r', pl, hz⟩ := I.tuple hq
    have hlen := r'.length
    obtain ⟨o, ho, hc, n, hd⟩ := pl
    exact call_list_seq p (.inr rfl) ho hc hd (fun h' c' kp e => fin its r' hz h' c' kp e) (by simp only [List.size_toArray] <;> omega)
/-! ### the call of a builtin's method: o.m(..) -/
/-- the value is of that builtin type -/
def tyV (K : PySem.W.Frag) (T : String) (x : V) (H : Hp) : Prop := match x with
  | .str _ => T = "str"
  | .int _ => T = "int"
  | .ref p => (T = "list" ∧ ∃ xs, SqL K H p xs) ∨ (T = "tuple" ∧ ∃ o, K.lookup p = some o ∧ o.cls = .type "tuple" ∧ o.dict = none) ∨
      (T = "dict" ∧ ((∃ kvs, H p = some (.dK kvs)) ∨ ∃ kvs, H p = some (.dT kvs))) ∨ (T = "set" ∧ ∃ S n, H p = some (.set S n))
  | _ => False
theorem tyV_is {pins : List (Addr × Obj)} {σ : St} {H : Hp} {s : Shared} {T : String} {x : V} {v : Value} (I : Inv X pins σ H s) (r : RelV x v) (ty : tyV X.K T x H) :
    s.TypeIs v T ∧ ∀ a, v = .ref a → ∃ ob, s.heap.get? a = some ob ∧ ob.dict = none := by
  cases x with
  | str z =>
    obtain ⟨t, rfl⟩ := r
    cases (show T = "str" from ty)
    exact ⟨typeIs_str s z t, fun _ e => nomatch e⟩
  | int i =>
    obtain ⟨t, rfl⟩ := r
    cases (show T = "int" from ty)
    exact ⟨typeIs_int s i t, fun _ e => nomatch e⟩
  | ref p =>
    cases r
    rcases ty with ⟨rfl, xs, hq⟩ | ⟨rfl, o, hk, hc, hd⟩ | ⟨rfl, hk⟩ | ⟨rfl, S, n, hk⟩
    · obtain ⟨its, _, pl, _⟩ := I.list hq
      refine ⟨pl.isList.typeIs, fun a e => ?_⟩
      cases e
      obtain ⟨o, n, e, c, hd, _⟩ := pl
      exact ⟨o, e, hd⟩
    · refine ⟨⟨o, I.kIn p o hk, hc⟩, fun a e => ?_⟩
      cases e
      exact ⟨o, I.kIn _ o hk, hd⟩
    · have z : ∃ o, s.heap.get? p = some o ∧ o.ExactDict := by
        rcases hk with ⟨kvs, hk⟩ | ⟨kvs, hk⟩
        · obtain ⟨_, _, _, _, o, _, _, e, ex, _⟩ := I.hok p _ hk
          exact ⟨o, e, ex⟩
        · obtain ⟨_, _, _, _, o, _, _, e, ex, _⟩ := I.hok p _ hk
          exact ⟨o, e, ex⟩
      obtain ⟨o, e, ex⟩ := z
      refine ⟨⟨o, e, ex.1⟩, fun a e2 => ?_⟩
      cases e2
      exact ⟨o, e, ex.2.1⟩
    · obtain ⟨o, _, _, _, e, ex, _⟩ := I.hok p _ hk
      refine ⟨⟨o, e, ex.1⟩, fun a e2 => ?_⟩
      cases e2
      exact ⟨o, e, ex.2.1⟩
  | _ => exact False.elim ty
def tBM0 (K : PySem.W.Frag) (T : String) (r : V → List V → Hp → VK → Prop) (to : TE) : TE := fun σ H Q => to σ H fun x H1 => tyV K T x H1 ∧ r x [] H1 Q
def tBM (K : PySem.W.Frag) (T : String) (r : V → List V → Hp → VK → Prop) (to : TE) (t : TA) : TE := fun σ H Q => to σ H fun x H1 => tyV K T x H1 ∧ t σ H1 fun xs H2 => r x xs H2 Q
variable {o e : Expr} {es : List Expr} {to : TE} {t : TA} {name : Str} {apos cpos : Pos} {T id : String} {r : V → List V → Hp → VK → Prop}
theorem pe_bm0 (pa : PlainAttrs T) (slot : Slot T name id) (hty : typeOf (.builtin id) = pure (.type "method_descriptor")) (hm : MtR X id r) (ho : PE X o to)
    (hbase : attributeBase o name X.env (eval o X.env) = eval o X.env := by rfl) (hline : (apos.endLine == cpos.line) = true := by rfl) : PE X (.Call (.Attribute o name apos) [] [] cpos) (tBM0 X.K T r to) := by
  intro pins s σ H Q I h
  refine wpAny_Call_method0_late hbase hline (thn (ho pins s σ H _ I h) fun v s1 ⟨x, H1, I1, r1, ty, q1⟩ => ?_)
  obtain ⟨h1, h2⟩ := tyV_is I1 r1 ty
  exact ⟨T, id, pa, slot, hty, h1, h2, Calls.callWith_builtin rfl (PySem.evalArgs_none (hm pins s1 σ H1 x [] v [] Q I1 r1 .nil q1))⟩
theorem pe_bm (pa : PlainAttrs T) (slot : Slot T name id) (hty : typeOf (.builtin id) = pure (.type "method_descriptor")) (hm : MtR X id r) (ho : PE X o to) (ha : PA X (e :: es) t)
    (hbase : attributeBase o name X.env (eval o X.env) = eval o X.env := by rfl)
    (hfew : ((backTo cpos (starEach (e :: es) X.env)).all (fun x => !x.1) && (backToKw cpos (keywordEach [] X.env)).all (fun x => x.1.isSome)
      && decide ((e :: es).length + ([] : List Keyword).length + (if ([] : List Keyword).isEmpty then 0 else 1) < 30)) = true := by rfl)
    (hline : (apos.endLine == cpos.line) = true := by rfl) (hs : starEach (e :: es) X.env = (false, eval e X.env) :: starEach es X.env := by rfl) (hplain : (backTo cpos (starEach es X.env)).any (·.1) = false := by rfl) :
    PE X (.Call (.Attribute o name apos) (e :: es) [] cpos) (tBM X.K T r to t) := by
  intro pins s σ H Q I h
  refine wpAny_Call_method_late hbase hfew hline rfl (thn (ho pins s σ H _ I h) fun v s1 ⟨x, H1, I1, r1, ty, q1⟩ => ?_)
  obtain ⟨h1, h2⟩ := tyV_is I1 r1 ty
  refine ⟨T, id, pa, slot, hty, h1, h2, ?_⟩
  have hA := ha cpos pins s1 σ H1 _ I1 q1
  rw [hs] at hA ⊢
  refine Calls.callWith_builtin (by show (false || (backTo cpos (starEach es X.env)).any (·.1)) = false; rw [hplain] <;> rfl) (Calls.evalArgs_plain ?_)
  exact thn hA fun us s2 ⟨vs, H2, I2, r2, q2⟩ => hm pins s2 σ H2 x vs v us Q I2 r1 r2 q2
/- xs.append(e), list.index on a module's tuple .. are MtR facts of 06m -/
end
end L2
namespace L2
open PySem PySem.Spec PyProof.Rows
def MtM (X : Cx) (id : String) (r : V → List V → Hp → VK → Prop) : Prop :=
  ∀ (pins : List (Addr × Obj)) (s : Shared) (σ : St) (H : Hp) (x : V) (xs : List V) (v : Value) (us : List Value) (Q : VK), Inv X pins σ H s → RelV x v → Vals xs us → r x xs H Q →
    wpAny (model X.prog X.w) X.A (call (.builtin id) (v :: us)) (EP X pins σ Q) X.xe s
/-! ### lists of values -/
theorem Vals.one : ∀ {x : V} {us : List Value}, Vals [x] us → ∃ u, us = [u] ∧ RelV x u
  | _, _, .cons r .nil => ⟨_, rfl, r⟩
theorem Vals.zero : ∀ {us : List Value}, Vals [] us → us = []
  | _, .nil => rfl
theorem Vals.dropLast {xs : List V} {us : List Value} (h : Vals xs us) : Vals xs.dropLast us.dropLast := by
  induction h with
  | nil => exact .nil
  | cons r t ih =>
    cases t with
    | nil => exact .nil
    | cons q t' => exact .cons r ih
theorem erase_last {α : Type} (l : List α) : l.eraseIdx (l.length - 1) = l.dropLast := by
  induction l with
  | nil => rfl
  | cons a r ih =>
    cases r with
    | nil => rfl
    | cons b r =>
      have e : (a :: b :: r).length - 1 = ((b :: r).length - 1) + 1 := by
        have h1 : (a :: b :: r).length = r.length + 2 := rfl
        have h2 : (b :: r).length = r.length + 1 := rfl
        omega
      rw [e, List.eraseIdx_cons_succ, ih]
      all_goals rfl
section
variable {X : Cx} {pins : List (Addr × Obj)} {σ : St} {H : Hp} {s : Shared} {l b : Addr} {xs ys zs : List V}
/-! ### the two steps: a tracked list is rewritten, a new list is laid -/
theorem Inv.lset {its its' : List Value} {n : Nat} {f : Array Value → Array Value} {t' : Nat} (I : Inv X pins σ H s) (hH : H l = some (.lst xs))
    (e : s.heap.get? l = some { cls := .type "list", data := .seq its.toArray n }) (hf : f its.toArray = its'.toArray) (hv : Vals ys its') (hz : ys.length ≤ sizeLine) :
    Inv X pins σ (upd H l (.lst ys)) { s with heap := s.heap.update l (Obj.mapSeq f), toks := t' } := by
  have q := PySem.IsL.update e f
  rw [hf] at q
  refine I.write (x := l) (e := l) (by rw [hH]; exact trivial) (.inl rfl) (fun b' u hb hu => (Heap.get?_update_other s.heap (Obj.mapSeq f) (Ne.symm hb)).trans hu) ⟨_, q⟩ ?_
  exact ⟨hz, its', _, hv, q⟩
theorem Inv.lnew {its : List Value} {t' : Nat} (I : Inv X pins σ H s) (hv : Vals ys its) (hz : ys.length ≤ sizeLine) :
    Inv X pins σ (upd H s.heap.objs.size (.lst ys)) { s with heap := s.heap.push { cls := .type "list", data := .seq its.toArray }, toks := t' } :=
  I.laid (fun _ _ q => Heap.get?_push_of_some _ q) (Nat.le_refl _) ⟨hz, its, 0, hv, Heap.get?_push_size _ rfl⟩
theorem Inv.fresh (I : Inv X pins σ H s) : H s.heap.objs.size = none := I.hok.fresh (Nat.le_refl _)
theorem Inv.lstM (I : Inv X pins σ H s) (hH : H l = some (.lst xs)) : xs.length ≤ sizeLine ∧ ∃ (its : List Value) (n : Nat), Vals xs its ∧ xs.length = its.length ∧ s.heap.get? l = some { cls := .type "list", data := .seq its.toArray n } := by
  obtain ⟨z, its, n, r, e⟩ := I.hok l _ hH
  exact ⟨z, its, n, r, r.length, e⟩
theorem notLongL {n : Nat} (h : n ≤ sizeLine) : Builtin.List.listTooLong n = false := by
  unfold Builtin.List.listTooLong
  exact decide_eq_false (by omega)
end
section
variable {X : Cx}
/-! ### methods -/
def rAppend : V → List V → Hp → VK → Prop := fun x vs H Q => ∃ l xs y, x = .ref l ∧ vs = [y] ∧ H l = some (.lst xs) ∧ xs.length < sizeLine ∧ Q .non (upd H l (.lst (xs ++ [y])))
theorem mt_append : MtM X "list.append" rAppend := by
  intro pins s σ H x vs v us Q I rx rv h
  obtain ⟨l, xs, y, rfl, rfl, hH, hz, q⟩ := h
  cases rx
  obtain ⟨u, rfl, ru⟩ := rv.one
  obtain ⟨z, its, n, r, hl, e⟩ := I.lstM hH
  refine call_meets F.slot_list_append ⟨_, e, rfl⟩ F.entry_list_append (F.args_list_append_2 _ _) (PySem.list_append l its.toArray n u (by rw [List.size_toArray]; omega)) ⟨e, ?_⟩
  refine ⟨.non, _, I.lset (its' := its ++ [u]) hH e (by simp) (r.append (.cons ru .nil)) ?_, rfl, q⟩
  rw [List.length_append, List.length_singleton]
  omega
def rExtend : V → List V → Hp → VK → Prop := fun x vs H Q => ∃ l b xs zs, x = .ref l ∧ vs = [.ref b] ∧ H l = some (.lst xs) ∧ H b = some (.lst zs) ∧ xs.length + zs.length ≤ sizeLine ∧ Q .non (upd H l (.lst (xs ++ zs)))
theorem mt_extend : MtM X "list.extend" rExtend := by
  intro pins s σ H x vs v us Q I rx rv h
  obtain ⟨l, b, xs, zs, rfl, rfl, hH, hB, hz, q⟩ := h
  cases rx
  obtain ⟨u, rfl, ru⟩ := rv.one
  cases ru
  obtain ⟨z, its, n, r, hl, e⟩ := I.lstM hH
  obtain ⟨z2, its2, n2, r2, hl2, e2⟩ := I.lstM hB
  have hsz : its.toArray.size + its2.toArray.size ≤ sizeLine := by rw [List.size_toArray, List.size_toArray]; omega
  have hlong : ¬ (!its.toArray.isEmpty && Builtin.List.listTooLong (its.toArray.size + its2.toArray.size)) = true := by
    rw [notLongL hsz, Bool.and_false]
    exact Bool.false_ne_true
  refine call_meets F.slot_list_extend ⟨_, e, rfl⟩ F.entry_list_extend (F.args_list_extend_2 _ _)
    (AutoSeq1.list_extend_list_list_0 l its.toArray n b its2.toArray n2 hlong (by rw [List.size_toArray]; omega) (by omega)) ⟨e, e2, ?_⟩
  refine ⟨.non, _, I.lset (its' := its ++ its2) hH e (by simp) (r.append r2) ?_, rfl, q⟩
  rw [List.length_append]
  omega
def rPop : V → List V → Hp → VK → Prop := fun x vs H Q => ∃ l xs y, x = .ref l ∧ vs = [] ∧ H l = some (.lst xs) ∧ xs[xs.length - 1]? = some y ∧ Q y (upd H l (.lst xs.dropLast))
theorem mt_pop : MtM X "list.pop" rPop := by
  intro pins s σ H x vs v us Q I rx rv h
  obtain ⟨l, xs, y, rfl, rfl, hH, hy, q⟩ := h
  cases rx
  have hus := rv.zero
  subst hus
  obtain ⟨z, its, n, r, hl, e⟩ := I.lstM hH
  obtain ⟨u, hu, ru⟩ := r.get hy
  have hy' : its.toArray[its.toArray.size - 1]? = some u := by
    show its.toArray[its.length - 1]? = some u
    rw [← Array.getElem?_toList, ← hl]
    exact hu
  refine call_meets F.slot_list_pop ⟨_, e, rfl⟩ F.entry_list_pop (F.args_list_pop_1 _) (MeetsSeq.list_pop_last l its.toArray n u hy' (by rw [List.size_toArray]; omega)) ⟨e, ?_⟩
  refine ⟨y, _, I.lset (its' := its.dropLast) hH e ?_ r.dropLast ?_, ru, q⟩
  · show its.toArray.eraseIdxIfInBounds (its.toArray.size - 1) = its.dropLast.toArray
    rw [List.size_toArray, List.eraseIdxIfInBounds_toArray, erase_last]
  · rw [List.length_dropLast]
    omega
/-! ### list + list, list += list, list * int -/
def rCat : R2 := fun x y H Q => ∃ l b xs zs, x = .ref l ∧ y = .ref b ∧ H l = some (.lst xs) ∧ H b = some (.lst zs) ∧ xs.length + zs.length ≤ sizeLine ∧ ∀ p, H p = none → Q (.ref p) (upd H p (.lst (xs ++ zs)))
theorem op_cat : OpR X (binaryOp .Add) rCat := by
  intro pins s σ H x y v u Q I rx ry h
  obtain ⟨l, b, xs, zs, rfl, rfl, hH, hB, hz, q⟩ := h
  cases rx
  cases ry
  obtain ⟨z, its, n, r, hl, e⟩ := I.lstM hH
  obtain ⟨z2, its2, n2, r2, hl2, e2⟩ := I.lstM hB
  refine PySem.P.add_list e e2 ?_ (by rw [List.size_toArray, List.size_toArray]; omega)
  have ea : its.toArray ++ its2.toArray = (its ++ its2).toArray := by simp
  rw [ea]
  exact ⟨.ref _, _, I.lnew (t' := s.toks) (r.append r2) (by rw [List.length_append]; omega), rfl, q _ I.fresh⟩
/-! ### del xs[i] -/
end
/-! ### xs[a:b] = ys -/
section
variable {prog : Program} {w : World} {A : Around} {E : Value → Shared → Prop} {s : Shared}
end
section
variable {X : Cx}
end
end L2
namespace L2
open PySem PySem.Spec PyProof.Rows
theorem Vals.ints : ∀ {ns : List Int} {us : List Value}, Vals (ns.map V.int) us → IntsAre us ns
  | [], us, h => by
    rw [List.map_nil] at h
    cases h
    exact IntsAre.nil
  | n :: ns, us, h => by
    rw [List.map_cons] at h
    cases h with
    | cons r t =>
      obtain ⟨k, rfl⟩ := r
      exact IntsAre.cons n k (Vals.ints t)
theorem vals_of_ints : ∀ {us : List Value} {ns : List Int}, IntsAre us ns → Vals (ns.map V.int) us
  | _, _, .nil => by rw [List.map_nil]; exact Paired.nil
  | _, _, .cons n t h => by rw [List.map_cons]; exact Paired.cons (show RelV (V.int n) (Value.int n t) from ⟨t, rfl⟩) (vals_of_ints h)
theorem Vals.ref1 {a : Addr} {us : List Value} (r : Vals [V.ref a] us) : us = [Value.ref a] := by
  cases r with
  | cons r t =>
    cases t
    cases r
    rfl
/-! ### the library's walks over a list of ints, kept objects alone -/
section
variable {prog : Program} {w : World} {A : Around} {E : Value → Shared → Prop} {s : Shared} {l : Addr} {its : List Value} {ns : List Int} {Q : Value → Shared → Prop}
theorem sum_raw (hh : A.handled = none) (hl : s.heap.IsList l its.toArray) (hi : IntsAre its ns)
    (h : ∀ h' tk t', (∀ b o, s.heap.get? b = some o → h'.get? b = some o) → Q (.int ns.sum t') { s with heap := h', toks := tk }) : wpAny (model prog w) A (call (.builtin "sum") [.ref l]) Q E s := by
  obtain ⟨xs, e⟩ := hi.allInts.items
  have hn : numsOf (intItems xs).toList = ns := by rw [← e]; exact hi.numsOf
  rw [nums_intItems] at hn
  rw [e] at hl
  refine PySem.sum_intListG hh hl fun h' tk t' hk => ?_
  have := h h' tk t' hk
  rw [preSum_eq, List.take_of_length_le (by simp), hn]; exact this
end
/-! ### the calls, by values (CallR of 03t; MtR of 06l) -/
section
variable {X : Cx}
/-- sum(xs) of a list of ints -/
def rSum (K : PySem.W.Frag) : List V → Hp → VK → Prop := fun vs H Q => ∃ (a : Addr) (ns : List Int), vs = [V.ref a] ∧ SqL K H a (ns.map V.int) ∧ Q (.int ns.sum) H
theorem cr_sum (hc : X.calm = true) : CallR X (.builtin "sum") (rSum X.K) := by
  intro pins s σ H vs us Q I r h
  obtain ⟨a, ns, rfl, hs, q⟩ := h
  obtain ⟨its, rv, hl, _⟩ := I.list hs
  rw [Vals.ref1 r]
  exact sum_raw (I.ok.hd hc) hl.isList rv.ints fun h' tk t' hk => ⟨.int _, H, I.kept hk, ⟨_, rfl⟩, q⟩
/-! sorted, sort (fewer than 64 items: the library's own bound) -/
def rSorted (K : PySem.W.Frag) : List V → Hp → VK → Prop := fun vs H Q => ∃ (a : Addr) (ns : List Int), vs = [V.ref a] ∧ SqL K H a (ns.map V.int) ∧ ns.length < 64 ∧
  ∀ (ns' : List Int) (p : Addr), ns'.Perm ns → ns'.Pairwise (· ≤ ·) → H p = none → Q (.ref p) (upd H p (.lst (ns'.map V.int)))
theorem small64 {n : Nat} (h : n < 64) : n ≤ sizeLine := by rw [sizeLine_eq]; omega
theorem cr_sorted : CallR X (.builtin "sorted") (rSorted X.K) := by
  intro pins s σ H vs us Q I r h
  obtain ⟨a, ns, rfl, hs, h64, q⟩ := h
  obtain ⟨its, rv, hl, _⟩ := I.list hs
  rw [Vals.ref1 r]
  have hi := rv.ints
  refine PyProof.Rows.sorted_ints hl.isList hi (by rw [hi.length]; exact h64) fun out ns' h1 h2 h3 => ?_
  obtain ⟨ep, he'⟩ := PyProof.Rows.sortedAll_at s.heap its out
  have hlen : (ns'.map V.int).length ≤ sizeLine := by rw [List.length_map, h2.length_eq]; exact small64 h64
  exact ⟨.ref _, upd H (s.heap.objs.size + 1) (.lst (ns'.map V.int)), I.laid (t' := s.toks) (fun _ _ => PyProof.Rows.sortedAll_old) (Nat.le_succ _) ⟨hlen, out.toList, ep, vals_of_ints h1, he'⟩, rfl, q ns' _ h2 h3 (I.hok.fresh (Nat.le_succ _))⟩
end
/-! ### list.index, flat items -/
section
variable {X : Cx}
end
/-! ### type(x) of an own instance; is, is not of a module's class -/
section
variable {X : Cx}
end
/-! ### any(xs), all(xs) of a list of bools -/
section
variable {X : Cx}
end
/-! ### == and != of data at any depth: none, bools, ints, texts, lists, tuples -/
section
variable {X : Cx} {pins : List (Addr × Obj)} {σ : St} {H : Hp} {s : Shared}
end
section
variable {X : Cx}
end
end L2
namespace L2
open PySem PySem.Spec PyProof.Rows
abbrev CellAt (h : Heap) (c : Addr) (v : Option Value) : Prop := h.IsCell c v
def relS (scope sc : Scope) : Scope :=
  { scope with names := scope.names.map fun (n, k) => if (k == .free && sc.kind == .function && sc.names.lookup n == some .cell) then (n, .cell) else (n, k) }
def cloFrom (cells : List (Str × Addr)) : List (Str × NameKind) → List (Str × Addr) → List (Str × Addr)
  | [], acc => acc
  | (n, k) :: r, acc => if k == .free then cloFrom cells r ((n, (cells.lookup n).getD 0) :: acc) else cloFrom cells r acc
theorem closure_loop (env : Env) (f : Str × NameKind → List (Str × Addr) → Sem (ForInStep (List (Str × Addr))))
    (hf : ∀ n k c, f (n, k) c = if k == .free then (do let a ← cellOf env n; pure (.yield ((n, a) :: c))) else pure (.yield c)) :
    ∀ (names : List (Str × NameKind)) (acc : List (Str × Addr)), (∀ y ∈ names, y.2 = .free → ∃ c, env.cells.lookup y.1 = some c) → forIn names acc f = pure (cloFrom env.cells names acc)
  | [], acc, _ => by rw [List.forIn_nil]; rfl
  | (n, k) :: r, acc, h => by
    rw [List.forIn_cons, hf]
    have ih := fun acc => closure_loop env f hf r acc fun y hy => h y (List.mem_cons_of_mem _ hy)
    unfold cloFrom
    by_cases hk : (k == NameKind.free) = true
    · rw [if_pos hk, if_pos hk]
      obtain ⟨c, hc⟩ := h (n, k) List.mem_cons_self (by simpa using hk)
      have e : cellOf env n = pure c := by unfold cellOf; rw [hc]
      rw [e]
      have e2 : (env.cells.lookup n).getD 0 = c := by rw [hc]; rfl
      rw [e2]
      exact ih _
    · rw [if_neg hk, if_neg hk]
      exact ih _
theorem closure_ok {scope : Scope} {env : Env} (h : ∀ y ∈ scope.names, y.2 = .free → ∃ c, env.cells.lookup y.1 = some c) : closureFor scope env = pure (cloFrom env.cells scope.names []) := by
  simp only [closureFor]
  rw [closure_loop env _ (fun n k c => rfl) scope.names [] h]
  rfl
theorem mem_lookup {α : Type} : ∀ {l : List (Str × α)} {n : Str} {c : α}, (n, c) ∈ l → ∃ c', l.lookup n = some c'
  | (k, v) :: r, n, c, h => by
    rw [List.lookup_cons]
    cases hb : n == k with
    | true => exact ⟨_, rfl⟩
    | false =>
      rcases List.mem_cons.mp h with e | h
      · cases e; simp at hb
      · exact mem_lookup h
theorem cloFrom_mem {cells : List (Str × Addr)} : ∀ {names : List (Str × NameKind)} {acc : List (Str × Addr)} {n : Str} {c : Addr}, (n, c) ∈ cloFrom cells names acc → (n, c) ∈ acc ∨ ((n, .free) ∈ names ∧ c = (cells.lookup n).getD 0)
  | [], _, _, _, h => .inl h
  | (m, k) :: r, acc, n, c, h => by
    unfold cloFrom at h
    split at h
    · rename_i hk
      have hk : k = .free := by simpa using hk
      rcases cloFrom_mem h with h | ⟨h1, h2⟩
      · rcases List.mem_cons.mp h with e | h
        · cases e; exact .inr ⟨hk ▸ List.mem_cons_self, rfl⟩
        · exact .inl h
      · exact .inr ⟨List.mem_cons_of_mem _ h1, h2⟩
    · rcases cloFrom_mem h with h | ⟨h1, h2⟩
      · exact .inl h
      · exact .inr ⟨List.mem_cons_of_mem _ h1, h2⟩
theorem cloFrom_acc {cells : List (Str × Addr)} : ∀ {names : List (Str × NameKind)} {acc : List (Str × Addr)} {p : Str × Addr}, p ∈ acc → p ∈ cloFrom cells names acc
  | [], _, _, h => h
  | (m, k) :: r, acc, p, h => by
    unfold cloFrom
    split
    · exact cloFrom_acc (List.mem_cons_of_mem _ h)
    · exact cloFrom_acc h
theorem cloFrom_has {cells : List (Str × Addr)} : ∀ {names : List (Str × NameKind)} {acc : List (Str × Addr)} {n : Str}, (n, .free) ∈ names → (n, (cells.lookup n).getD 0) ∈ cloFrom cells names acc
  | (m, k) :: r, acc, n, h => by
    unfold cloFrom
    rcases List.mem_cons.mp h with e | h
    · cases e
      exact cloFrom_acc List.mem_cons_self
    · split
      · exact cloFrom_has h
      · exact cloFrom_has h
theorem cells_mem : ∀ {names : List (Str × NameKind)} {h : Heap} {acc : List (Str × Addr)} {x : Str} {c : Addr}, (x, c) ∈ cellsFrom h.objs.size names acc →
    (x, c) ∈ acc ∨ ((x, .cell) ∈ names ∧ h.objs.size ≤ c ∧ CellAt (pushCells h names) c none)
  | [], _, _, _, _, h => .inl h
  | (n, k) :: r, h, acc, x, c, hm => by
    unfold cellsFrom at hm
    unfold pushCells
    split at hm
    · rename_i hk
      rw [if_pos hk]
      have hk : k = .cell := by simpa using hk
      rw [← Heap.size_push h { cls := .type "cell", data := .cell none }] at hm
      rcases cells_mem hm with hm | ⟨h1, h2, h3⟩
      · rcases List.mem_cons.mp hm with e | hm
        · cases e
          exact .inr ⟨hk ▸ List.mem_cons_self, Nat.le_refl _, _, pushCells_keeps r _ _ _ (Heap.get?_push_size _ rfl), rfl⟩
        · exact .inl hm
      · rw [Heap.size_push] at h2
        exact .inr ⟨List.mem_cons_of_mem _ h1, Nat.le_of_succ_le h2, h3⟩
    · rename_i hk
      rw [if_neg hk]
      rcases cells_mem hm with hm | ⟨h1, h2, h3⟩
      · exact .inl hm
      · exact .inr ⟨List.mem_cons_of_mem _ h1, h2, h3⟩
theorem cells_acc : ∀ {names : List (Str × NameKind)} {n : Nat} {acc : List (Str × Addr)} {p : Str × Addr}, p ∈ acc → p ∈ cellsFrom n names acc
  | [], _, _, _, h => h
  | (m, k) :: r, n, acc, p, h => by
    unfold cellsFrom
    split
    · exact cells_acc (List.mem_cons_of_mem _ h)
    · exact cells_acc h
theorem cells_has : ∀ {names : List (Str × NameKind)} {n : Nat} {acc : List (Str × Addr)} {x : Str}, (x, .cell) ∈ names → ∃ c, (x, c) ∈ cellsFrom n names acc
  | (m, k) :: r, n, acc, x, h => by
    unfold cellsFrom
    rcases List.mem_cons.mp h with e | h
    · cases e
      exact ⟨n, cells_acc List.mem_cons_self⟩
    · split
      · exact cells_has h
      · exact cells_has h
theorem cells_inj : ∀ {names : List (Str × NameKind)} {h : Heap} {acc : List (Str × Addr)} {x y : Str} {c : Addr}, (∀ p ∈ acc, p.2 < h.objs.size) → (∀ x y c, (x, c) ∈ acc → (y, c) ∈ acc → x = y) →
    (x, c) ∈ cellsFrom h.objs.size names acc → (y, c) ∈ cellsFrom h.objs.size names acc → x = y
  | [], _, _, _, _, _, _, hi, h1, h2 => hi _ _ _ h1 h2
  | (n, k) :: r, h, acc, x, y, c, hl, hi, h1, h2 => by
    unfold cellsFrom at h1 h2
    split at h1
    · rename_i hk
      rw [if_pos hk] at h2
      rw [← Heap.size_push h { cls := .type "cell", data := .cell none }] at h1 h2
      refine cells_inj (h := h.push _) (fun p hp => ?_) (fun x y c a b => ?_) h1 h2
      · rw [Heap.size_push]
        rcases List.mem_cons.mp hp with rfl | hp
        · exact Nat.lt_succ_self _
        · exact Nat.lt_succ_of_lt (hl p hp)
      · rcases List.mem_cons.mp a with e | a <;> rcases List.mem_cons.mp b with e' | b
        · cases e; cases e'; rfl
        · cases e; exact absurd (hl _ b) (Nat.lt_irrefl _)
        · cases e'; exact absurd (hl _ a) (Nat.lt_irrefl _)
        · exact hi _ _ _ a b
    · rename_i hk
      rw [if_neg hk] at h2
      exact cells_inj hl hi h1 h2
theorem newEnv_comp {M : Model} {A : Around} {E : Value → Shared → Prop} {s : Shared} {scope : Scope} {globals : Addr} {closure : List (Str × Addr)} {qual : Str} {func : Option Addr} {code : Value} {around : Env} {builtins : Addr} {Q : Env → Shared → Prop}
    (h : Q (newEnv scope s.heap.objs.size globals (cellsFrom (s.heap.objs.size + 1) scope.names closure) qual func code (some around) builtins)
      { s with heap := pushCells (s.heap.push { cls := .type "dict", data := .dict #[] }) scope.names }) :
    wpAny M A (newFunctionEnv scope globals closure [] qual func code (some around) builtins) Q E s := by
  simp only [newFunctionEnv, Option.isSome_some, if_true]
  refine wpAny_bind (wpAny_alloc ?_)
  refine wpAny_bind (wpAny_layCells _ (fun n k c => rfl) scope.names closure _ _ ?_)
  rw [show ({ s with heap := s.heap.push { cls := .type "dict", data := .dict #[] } } : Shared).heap.objs.size = s.heap.objs.size + 1 from Heap.size_push ..]
  rw [List.forIn_nil]
  exact wpAny_bind (wpAny_pure (wpAny_pure h))
/-- every name of the written scope, in the scope that runs -/
theorem lookup_relS {sc : Scope} : ∀ {names : List (Str × NameKind)} {x : Str} {k : NameKind},
    (names.map fun (n, k) => if (k == NameKind.free && sc.kind == .function && sc.names.lookup n == some .cell) then (n, NameKind.cell) else (n, k)).lookup x = some k →
    ∃ k', names.lookup x = some k' ∧ (k = k' ∨ (k' = .free ∧ k = .cell))
  | [], _, _, h => by simp at h
  | (n, k₀) :: r, x, k, h => by
    have ih := @lookup_relS sc r x k
    have h' : List.lookup x ((if (k₀ == NameKind.free && sc.kind == .function && sc.names.lookup n == some .cell) = true then (n, NameKind.cell) else (n, k₀)) :: (r.map _)) = some k := h
    cases hx : x == n with
    | true =>
      simp only [List.lookup_cons, hx]
      by_cases hc : (k₀ == NameKind.free && sc.kind == .function && sc.names.lookup n == some .cell) = true
      · rw [if_pos hc] at h'
        simp only [List.lookup_cons, hx] at h'
        cases h'
        simp only [Bool.and_eq_true, beq_iff_eq] at hc
        exact ⟨k₀, rfl, .inr ⟨hc.1.1, rfl⟩⟩
      · rw [if_neg hc] at h'
        simp only [List.lookup_cons, hx] at h'
        cases h'
        exact ⟨_, rfl, .inl rfl⟩
    | false =>
      simp only [List.lookup_cons, hx]
      by_cases hc : (k₀ == NameKind.free && sc.kind == .function && sc.names.lookup n == some .cell) = true
      · rw [if_pos hc] at h'
        simp only [List.lookup_cons, hx] at h'
        exact ih h'
      · rw [if_neg hc] at h'
        simp only [List.lookup_cons, hx] at h'
        exact ih h'
/-- the names of a comprehension's block: its own (with their places in N), or captured -/
structure BlkOk (N : List Str) (sc scope : Scope) (own : List (Str × Nat)) : Prop where
  kind : scope.kind = .function
  uniq : ∀ y ∈ scope.names, scope.names.lookup y.1 = some y.2
  ix : ∀ p ∈ own, N[p.2]? = some p.1
  free : ∀ y ∈ scope.names, y.2 = .free → sc.names.lookup y.1 = some .cell ∨ sc.names.lookup y.1 = some .free
  own : ∀ y ∈ scope.names, y.2 = .local ∨ y.2 = .cell → y.1 ∈ own.map (·.1) ∨ y.1 ∉ N
/-- the slots of the block's own names forgotten -/
def wipe (σ : St) : List Nat → St
  | [] => σ
  | v :: vs => (wipe σ vs).set v none
theorem wipe_length (σ : St) : ∀ vs : List Nat, (wipe σ vs).length = σ.length
  | [] => rfl
  | v :: vs => by unfold wipe; rw [List.length_set, wipe_length σ vs]
theorem wipe_some {σ : St} {i : Nat} {x : V} : ∀ {vs : List Nat}, (wipe σ vs)[i]? = some (some x) → σ[i]? = some (some x) ∧ i ∉ vs
  | [], h => ⟨h, by simp⟩
  | v :: vs, h => by
    unfold wipe at h
    by_cases hi : v = i
    · subst hi
      by_cases hv : v < (wipe σ vs).length
      · rw [List.getElem?_set_self hv] at h; cases h
      · rw [List.getElem?_eq_none (by simpa using hv)] at h; cases h
    · rw [List.getElem?_set_ne hi] at h
      obtain ⟨h1, h2⟩ := wipe_some h
      exact ⟨h1, by simp only [List.mem_cons, not_or]; exact ⟨fun e => hi e.symm, h2⟩⟩
/-- the context of a block that starts at s, its iterator's objects at fp -/
abbrev Cx.blk (X : Cx) (s : Shared) (H : Hp) (scope : Scope) (cenv : Env) (fp : List Addr) : Cx := { X with s_0 := s, H_0 := H, env := cenv, outer := X.stack, ex := fp, fn := fun x => scope.names.lookup x == some .cell, pn := [], xe := fun _ _ => False }
section
variable {X : Cx} {pins : List (Addr × Obj)} {σ : St} {H : Hp} {s : Shared}
theorem block_start {scope : Scope} {own : List (Str × Nat)} {fp : List Addr} (I : Inv X pins σ H s) (ok : BlkOk X.N X.env.scope scope own) (hN : X.N.Nodup) (hfp : ∀ b ∈ fp, FpOk X pins H b ∧ b < s.heap.objs.size) :
    Inv (X.blk s H scope (compEnvC scope (cellsFrom (s.heap.objs.size + 1) scope.names (cloFrom X.env.cells scope.names [])) s.heap.objs.size X.env) fp) [] (wipe σ (own.map (·.2))) H { s with heap := pushCells (s.heap.push { cls := .type "dict", data := .dict #[] }) scope.names } := by
  have hfree : ∀ y ∈ scope.names, y.2 = .free → ∃ c, X.env.cells.lookup y.1 = some c := fun y hy e => by
    rcases ok.free y hy e with k | k
    · exact I.ok.has _ (.inl k)
    · exact I.ok.has _ (.inr k)
  generalize hcenv : compEnvC scope (cellsFrom (s.heap.objs.size + 1) scope.names (cloFrom X.env.cells scope.names [])) s.heap.objs.size X.env = cenv
  have kp : ∀ b o, s.heap.get? b = some o → (pushCells (s.heap.push { cls := .type "dict", data := .dict #[] }) scope.names).get? b = some o := fun b o e => pushCells_keeps _ _ _ _ (Heap.get?_push_of_some _ e)
  have hL : cenv.locals = s.heap.objs.size := by rw [← hcenv]; rfl
  have hcl : cenv.cells = cellsFrom (s.heap.objs.size + 1) scope.names (cloFrom X.env.cells scope.names []) := by rw [← hcenv]; rfl
  have hsc : cenv.scope = relS scope X.env.scope := by rw [← hcenv]; rfl
  rw [← Heap.size_push s.heap { cls := .type "dict", data := .dict #[] }] at hcl
  have cm : ∀ {y c}, (y, c) ∈ cloFrom X.env.cells scope.names [] → X.env.cells.lookup y = some c ∧ c < s.heap.objs.size := fun {y c} hm => by
    rcases cloFrom_mem hm with hm | ⟨h1, rfl⟩
    · cases hm
    · obtain ⟨c, hc⟩ := hfree _ h1 rfl
      rw [hc]
      obtain ⟨w, z⟩ := I.cell _ _ hc
      exact ⟨rfl, z.lt⟩
  have mem : ∀ {y c}, cenv.cells.lookup y = some c → (X.env.cells.lookup y = some c ∧ c < s.heap.objs.size) ∨ (s.heap.objs.size + 1 ≤ c ∧ CellAt (pushCells (s.heap.push { cls := .type "dict", data := .dict #[] }) scope.names) c none) := fun {y c} e => by
    rw [hcl] at e
    rcases cells_mem (PySem.mem_of_lookup e) with hm | ⟨_, h2, h3⟩
    · exact .inl (cm hm)
    · rw [Heap.size_push] at h2; exact .inr ⟨h2, h3⟩
  have look : ∀ {y}, scope.names.lookup y = some .free → ∃ c, cenv.cells.lookup y = some c ∧ X.env.cells.lookup y = some c := fun {y} hl => by
    have hy : (y, NameKind.free) ∈ scope.names := PySem.mem_of_lookup hl
    obtain ⟨c', e'⟩ := mem_lookup (cells_acc (names := scope.names) (n := (s.heap.push { cls := .type "dict", data := .dict #[] }).objs.size) (cloFrom_has (cells := X.env.cells) (acc := []) hy))
    rw [← hcl] at e'
    refine ⟨c', e', ?_⟩
    rw [hcl] at e'
    rcases cells_mem (PySem.mem_of_lookup e') with hm | ⟨h1, _, _⟩
    · exact (cm hm).1
    · have := ok.uniq _ h1
      rw [hl] at this; cases this
  have okB : (X.blk s H scope cenv fp).Ok := by
    refine ⟨I.ok.mod, by show cenv.scope.kind = _; rw [hsc]; exact ok.kind, by show cenv.globals = _; rw [← hcenv]; exact I.ok.glob, by show cenv.builtins = _; rw [← hcenv]; exact I.ok.blt, by show s.heap.objs.size ≤ cenv.locals; rw [hL]; exact Nat.le_refl _,
      fun y z c e1 e2 => ?_, fun y hy => ?_, fun y c z e => ?_, I.ok.hd, I.ok.frames, .inl rfl, fun b hb => ⟨?_, fun y c e z => ?_⟩, I.bs, Nat.le_trans I.ok.bsz I.sz, fun b o e hb => ?_, fun b hb z => ?_, I.stack, I.stkFree⟩
    · have e1 : cenv.cells.lookup y = some c := e1
      have e2 : cenv.cells.lookup z = some c := e2
      rw [hcl] at e1 e2
      refine cells_inj (fun p hp => ?_) (fun y z c a b => I.ok.inj y z c (cm a).1 (cm b).1) (PySem.mem_of_lookup e1) (PySem.mem_of_lookup e2)
      rw [Heap.size_push]
      exact Nat.lt_succ_of_lt (cm (y := p.1) (c := p.2) hp).2
    · show ∃ c, cenv.cells.lookup y = some c
      have key : ∀ k, cenv.kindOf y = some k → (k = .cell ∨ k = .free) → ∃ c, cenv.cells.lookup y = some c := fun k hk hk' => by
        unfold Env.kindOf at hk
        rw [hsc] at hk
        obtain ⟨k', e, r⟩ := lookup_relS hk
        have : k' = .cell ∨ k' = .free := by
          rcases r with rfl | ⟨rfl, _⟩
          · exact hk'
          · exact .inr rfl
        rcases this with rfl | rfl
        · obtain ⟨c, hm⟩ := cells_has (n := (s.heap.push { cls := .type "dict", data := .dict #[] }).objs.size) (acc := cloFrom X.env.cells scope.names []) (PySem.mem_of_lookup e)
          obtain ⟨c', e'⟩ := mem_lookup hm
          exact ⟨c', by rw [hcl]; exact e'⟩
        · obtain ⟨c, h1, _⟩ := look e
          exact ⟨c, h1⟩
      rcases hy with hy | hy
      · exact key _ hy (.inl rfl)
      · exact key _ hy (.inr rfl)
    · have z : (scope.names.lookup y == some NameKind.cell) = true := z
      have z : scope.names.lookup y = some .cell := by simpa using z
      have e : cenv.cells.lookup y = some c := e
      rw [hcl] at e
      rcases cells_mem (PySem.mem_of_lookup e) with hm | ⟨_, h2, _⟩
      · rcases cloFrom_mem hm with hm | ⟨h1, _⟩
        · cases hm
        · have q := ok.uniq _ h1
          rw [z] at q; cases q
      · rw [Heap.size_push] at h2
        exact Nat.le_of_succ_le h2
    · show b ≠ cenv.locals
      rw [hL]; exact Nat.ne_of_lt (hfp b hb).2
    · have e : cenv.cells.lookup y = some c := e
      rcases mem e with ⟨h1, _⟩ | ⟨h1, _⟩
      · exact (hfp b hb).1.2.2.2.2.1 y c h1 z
      · have h2 : s.heap.objs.size + 1 ≤ b := by rw [← z]; exact h1
        exact absurd (Nat.lt_of_lt_of_le (hfp b hb).2 (Nat.le_of_succ_le h2)) (Nat.lt_irrefl _)
    · rcases (hfp b hb).1.2.2.2.1 with z | z
      · exact I.ok.noex b o e z
      · exact absurd (Nat.lt_of_lt_of_le (Heap.lt_size e) (Nat.le_trans I.ok.bsz z)) (Nat.lt_irrefl _)
    · rcases List.mem_cons.mp (I.stkSub b z) with z | z
      · exact (hfp b hb).1.2.1 z
      · exact (hfp b hb).1.2.2.1 z
  refine ⟨okB, rfl, I.bare, Un.kept kp, ⟨fun _ => none, ?_, fun i y av e1 e2 e3 => ?_⟩, fun y c e => ?_, ?_, fun y c e => ?_, fun p hp => ?_, I.hok.kept kp, by rw [wipe_length]; exact I.len⟩
  · show Heap.Ns _ cenv.locals _
    rw [hL]
    exact Heap.Ns.keeps (Heap.Ns.new ..) fun b o e => pushCells_keeps _ _ _ _ e
  · obtain ⟨e2, hne⟩ := wipe_some e2
    have hfr : scope.names.lookup y = some .free ∧ (cenv.kindOf y = some .cell ∨ cenv.kindOf y = some .free) := by
      have key : ∀ k, cenv.scope.names.lookup y = some k → k = .local ∨ k = .cell ∨ k = .free → scope.names.lookup y = some .free ∧ (cenv.kindOf y = some .cell ∨ cenv.kindOf y = some .free) := fun k hk hk' => by
        have hk0 := hk
        rw [hsc] at hk
        obtain ⟨k', e, r⟩ := lookup_relS hk
        have no : ¬ (k' = .local ∨ k' = .cell) := fun hh => by
          rcases ok.own _ (PySem.mem_of_lookup e) hh with e' | e'
          · obtain ⟨p, hp, hpy⟩ := List.mem_map.mp e'
            have e3 := ok.ix p hp
            have : p.1 = y := hpy
            rw [this] at e3
            exact hne (List.mem_map.mpr ⟨p, hp, nodup_ix hN e3 e1⟩)
          · exact e' (List.mem_of_getElem? e1)
        rcases r with rfl | ⟨rfl, rfl⟩
        · rcases hk' with rfl | rfl | rfl
          · exact absurd (.inl rfl) no
          · exact absurd (.inr rfl) no
          · exact ⟨e, .inr hk0⟩
        · exact ⟨e, .inl hk0⟩
      have e3 : Vis cenv.scope y := e3
      rcases e3 with e3 | e3 | e3
      · exact key _ e3 (.inl rfl)
      · exact key _ e3 (.inr (.inl rfl))
      · exact key _ e3 (.inr (.inr rfl))
    obtain ⟨m, hn, hl⟩ := I.loc
    have hvis : Vis X.env.scope y := (ok.free _ (PySem.mem_of_lookup hfr.1) rfl).elim (fun k => .inr (.inl k)) (fun k => .inr (.inr k))
    obtain ⟨w, r, q⟩ := hl i y av e1 e2 hvis
    refine ⟨w, r, .inr ⟨hfr.2, ?_⟩⟩
    obtain ⟨c, h1, h2⟩ := look hfr.1
    rcases q with ⟨k, _⟩ | ⟨_, c', e', z⟩
    · have k : X.env.scope.names.lookup y = some .local := k
      rcases ok.free _ (PySem.mem_of_lookup hfr.1) rfl with k' | k' <;> rw [show X.env.scope.names.lookup y = _ from k'] at k <;> cases k
    · rw [h2] at e'; cases e'
      exact ⟨c, h1, z.keeps kp⟩
  · have e : cenv.cells.lookup y = some c := e
    rcases mem e with ⟨h1, _⟩ | ⟨_, z⟩
    · obtain ⟨w, z⟩ := I.cell y c h1
      exact ⟨w, z.keeps kp⟩
    · exact ⟨_, z⟩
  · show H cenv.locals = none
    rw [hL]; exact I.hok.fresh (Nat.le_refl _)
  · have e : cenv.cells.lookup y = some c := e
    rcases mem e with ⟨h1, _⟩ | ⟨h1, _⟩
    · exact I.freeC y c h1
    · exact I.hok.fresh (Nat.le_of_succ_le h1)
  · exact absurd (show p ∈ ([] : List (Addr × Obj)) ++ [] from hp) (by simp)
/-- an item appended to a tracked list -/
theorem app_ok {E : Value → Shared → Prop} {D : Addr} {xs : List V} {y : V} {v : Value} {Q : Value → Shared → Prop} (I : Inv X pins σ H s) (hD : H D = some (.lst xs)) (hz : xs.length < sizeLine) (r : RelV y v)
    (h : ∀ s', Inv X pins σ (upd H D (.lst (xs ++ [y]))) s' → Q .none s') : wpAny (model X.prog X.w) X.A (call (.builtin "list.append") [.ref D, v]) Q E s := by
  obtain ⟨hz', its, n, ri, e⟩ := I.hok D _ hD
  have hl := ri.length
  refine append_at (hsz := by rw [List.size_toArray]; omega) e fun h' sb ho' => ?_
  refine h { s with heap := h' } (I.write (t' := s.toks) (by rw [hD]; trivial) (.inl rfl) (fun b u hb q => (sb.2 b hb).trans q) ⟨_, ho'⟩ ⟨by rw [List.length_append]; exact hz, its ++ [v], n + 1, ri.append (.cons r .nil), ?_⟩)
  rw [ho']
  simp
/-- a clause's tests -/
def PTs (X : Cx) (ifs : List Expr) (t : TT) : Prop :=
  ∀ (pins : List (Addr × Obj)) (s : Shared) (σ : St) (H : Hp) (Q : Bool → Hp → Prop), Inv X pins σ H s → t σ H Q →
    wpAny (model X.prog X.w) X.A (forIn ifs true fun c r => if r = true then do let ok ← isTrue c X.env (eval c X.env); pure (ForInStep.yield ok) else pure (ForInStep.yield r)) (TP X pins σ Q) X.xe s
def tYes : TT := fun _ H Q => Q true H
theorem pts_nil : PTs X [] tYes := fun _ _ _ H _ I h => wpAny_tests_nil ⟨H, I, h⟩
theorem pts_one {c : Expr} {t : TT} (h : PT X c t) : PTs X [c] t := fun pins s σ H Q I hw => wpAny_tests_one (h pins s σ H Q I hw)
end
theorem thnF {α : Type} {t : Sem α} {Q Q' : α → Shared → Prop} {M : Model} {A : Around} {E : Value → Shared → Prop} {s : Shared} (h : wpAny M A t Q (fun _ _ => False) s) (hQ : ∀ a s, Q a s → Q' a s) : wpAny M A t Q' E s := wpAny_mono h hQ fun _ _ z => False.elim z
/-- the loop of a list comprehension's block, the target of any form (codeAny_compLoop_tests asks a target that no tuple goes to; statement and proof follow it, PyProof/CompMap.lean:41-61, with the step letOwnedTupleGo kept) -/
theorem compLoop_any {prog : Program} {w : World} {A : Around} {R : Result → Shared → Prop} {s : Shared} {elt target iter : Expr} {ifs : List Expr} {scope : Scope} {pos : Pos} {it acc : Value} {env : Env} (I : Nat → Shared → Prop)
    (turn : ∀ n s, I n s → wpAny (model prog w) A (pyNext it) (fun r s₁ => match r with
      | none => R (.ok .next) s₁
      | some v => wpAny (model prog w) A (letOwnedTupleGo target it v) (fun _ s₁' => wpAny (model prog w) A (assign target env v) (fun _ s₂ =>
          wpAny (model prog w) A (forIn ifs true fun c r => if r = true then do let ok ← isTrue c env (eval c env); pure (ForInStep.yield ok) else pure (ForInStep.yield r)) (fun ok s₃ =>
            if ok = true then wpAny (model prog w) A (eval elt env) (fun x s₄ =>
              wpAny (model prog w) A (call (.builtin "list.append") [acc, x]) (fun _ s₅ => ∃ m, m < n ∧ I m s₅) (notedBy (model prog w) A env fun e s' => R (.error e) s') s₄) (notedBy (model prog w) A env fun e s' => R (.error e) s') s₃
            else ∃ m, m < n ∧ I m s₃) (notedBy (model prog w) A env fun e s' => R (.error e) s') s₂) (notedBy (model prog w) A env fun e s' => R (.error e) s') s₁') (notedBy (model prog w) A env fun e s' => R (.error e) s') s₁) (notedBy (model prog w) A env fun e s' => R (.error e) s') s)
    (n : Nat) (h : I n s) :
    codeAny (model prog w) A (.compLoop (.ListComp elt [⟨target, iter, ifs, 0⟩] scope pos) 0 it acc env) R s := by
  refine codeAny_loop rfl I (fun n s hI => ?_) n h
  show wpAny _ A ((compTurn (.ListComp elt [⟨target, iter, ifs, 0⟩] scope pos) 0 it acc env).onRaise (fun x => do noteFrame x env; theTreesLotGoes x)) _ _ s
  refine wpAny_noted ?_
  rw [compTurn_list]
  refine wpAny_bind (wpAny_standAt (wpAny_bind (wpAny_mono (turn n s hI) (fun r s₁ h₁ => ?_) fun _ _ h' => h')))
  cases r with
  | none => exact wpAny_pure h₁
  | some v =>
    refine wpAny_bind (wpAny_mono h₁ (fun _ s₁' h₁' => ?_) fun _ _ h' => h')
    refine wpAny_bind (wpAny_mono h₁' (fun _ s₂ h₂ => wpAny_bind (wpAny_mono h₂ (fun ok s₃ h₃ => ?_) fun _ _ h' => h')) fun _ _ h' => h')
    cases ok with
    | false => exact wpAny_pure ⟨rfl, h₃⟩
    | true =>
      exact wpAny_bind (wpAny_bind (wpAny_mono h₃ (fun x s₄ h₄ => wpAny_bind (wpAny_mono h₄ (fun _ s₅ h₅ => wpAny_pure (wpAny_pure ⟨rfl, h₅⟩)) fun _ _ h' => h')) fun _ _ h' => h'))
section
variable {X : Cx}
/-- [elt for target in iter if ..]: D the new list; W by the turn and a measure, Nx what a turn is to reach -/
def tLc (wi : TI) (g : TG) (tt : TT) (te : TE) (vs : List Nat) : TE := fun σ H Q => wi σ H fun J H1 => ∀ D, H1 D = none → ∃ W : Nat → Nat → Hp → Prop, (∃ m, W 0 m (upd H1 D (.lst []))) ∧ ∀ i m H, W i m H →
  (J.stop i H ∧ Q (.ref D) H) ∨ (J.go i H ∧ ∃ Nx : Hp → Prop, (∀ H', Nx H' → ∃ m', m' < m ∧ W (i + 1) m' H') ∧ ∀ x H', J.yld i H x H' → g x (wipe σ vs) H' fun σ2 H2 => wipe σ2 vs = wipe σ vs ∧ tt σ2 H2 fun b H3 =>
    if b = true then te σ2 H3 fun y H4 => ∃ acc, H4 D = some (.lst acc) ∧ acc.length < sizeLine ∧ Nx (upd H4 D (.lst (acc ++ [y]))) else Nx H3)
theorem lc_core {pins : List (Addr × Obj)} {s : Shared} {σ : St} {H : Hp} {Q : VK} {elt tg iter : Expr} {ifs : List Expr} {scope : Scope} {own : List (Str × Nat)} {pos pos' : Pos} {wi : TI} {g : TG} {tt : TT} {te : TE} {use : Option (Value → Sem Unit)} {Qf : Value → Shared → Prop}
    (hc : X.calm = true) (hN : X.N.Nodup) (I : Inv X pins σ H s) (hi : PI X tg iter wi) (ok : BlkOk X.N X.env.scope scope own)
    (hg : ∀ (s : Shared) (H : Hp) (C : Addr) (cl : List (Str × Addr)) (fp : List Addr), PG (X.blk s H scope (compEnvC scope cl C X.env) fp) tg g) (ht : ∀ (s : Shared) (H : Hp) (C : Addr) (cl : List (Str × Addr)) (fp : List Addr), PTs (X.blk s H scope (compEnvC scope cl C X.env) fp) ifs tt)
    (he : ∀ (s : Shared) (H : Hp) (C : Addr) (cl : List (Str × Addr)) (fp : List Addr), PE (X.blk s H scope (compEnvC scope cl C X.env) fp) elt te) (hs : ∀ x, foldedSetIterable iter X.env x = pure x)
    (h : tLc wi g tt te (own.map (·.2)) σ H Q)
    (hRR : ∀ D C s' m H', Inv X pins σ H' s' → Q (.ref D) H' → s'.heap.Ns C m → FpOk X pins H' C → compPost (model X.prog X.w) X.A X.xe use Qf (.ref D) C (.ok .next) s') :
    wpAny (model X.prog X.w) X.A (comprehension (.ListComp elt [⟨tg, iter, ifs, 0⟩] scope pos) scope X.env pos' (newList []) false (eval iter X.env) use) Qf X.xe s := by
  have hfree : ∀ y ∈ scope.names, y.2 = .free → ∃ c, X.env.cells.lookup y.1 = some c := fun y hy e => by
    rcases ok.free y hy e with k | k
    · exact I.ok.has _ (.inl k)
    · exact I.ok.has _ (.inr k)
  refine wpAny_comprehension_free (use := use) rfl hs (closure_ok hfree) ok.kind (fun y hy e => by rw [ok.uniq y hy, e])
    (thn (hi pins s σ H _ I h) fun xv s1 hx => thn hx fun itv s2 h2 => ?_)
  obtain ⟨it, fp, tn, J, H2, e, I2, T, st2, f2, q⟩ := h2
  subst e
  refine wpAny_newObj_type (newEnv_comp ?_) (by show 0 ≤ sizeLine; decide)
  generalize hD : s2.heap.objs.size = D
  have hDn : H2 D = none := I2.hok.fresh (Nat.le_of_eq hD)
  obtain ⟨W, ⟨m0, w0⟩, turn⟩ := q D hDn
  -- the new list
  generalize hs3 : ({ s2 with heap := s2.heap.push { cls := .type "list", data := .seq ([] : List Value).toArray } } : Shared) = s3
  have I3 : Inv X pins σ (upd H2 D (.lst [])) s3 := by
    rw [← hs3]
    refine I2.laid (t' := s2.toks) (fun b o e => Heap.get?_push_of_some _ e) (Nat.le_of_eq hD) ⟨Nat.zero_le _, [], 0, .nil, ?_⟩
    rw [← hD]
    exact Heap.get?_push_size _ rfl
  have h3 : s3.heap = s2.heap.push { cls := .type "list", data := .seq ([] : List Value).toArray } := by rw [← hs3]
  have sz : ∀ b ∈ fp, b < s2.heap.objs.size := fun b hb => by
    obtain ⟨o, e, _⟩ := T.obj _ _ st2 b hb
    exact Heap.lt_size e
  have f3 : ∀ b ∈ fp, FpOk X pins (upd H2 D (.lst [])) b ∧ b < s3.heap.objs.size := fun b hb => by
    have hlt := sz b hb
    refine ⟨⟨?_, (f2 b hb).2⟩, by rw [h3, Heap.size_push]; exact Nat.lt_succ_of_lt hlt⟩
    rw [upd_ne (by rw [← hD]; exact Nat.ne_of_lt hlt)]
    exact (f2 b hb).1
  have st3 : tn 0 s3.heap := T.keep _ _ _ st2 fun b _ o e => by rw [h3]; exact Heap.get?_push_of_some _ e
  have I4 := block_start I3 ok hN f3
  have pg := hg s3 (upd H2 D (.lst [])) s3.heap.objs.size (cellsFrom (s3.heap.objs.size + 1) scope.names (cloFrom X.env.cells scope.names [])) fp
  have pt := ht s3 (upd H2 D (.lst [])) s3.heap.objs.size (cellsFrom (s3.heap.objs.size + 1) scope.names (cloFrom X.env.cells scope.names [])) fp
  have pe := he s3 (upd H2 D (.lst [])) s3.heap.objs.size (cellsFrom (s3.heap.objs.size + 1) scope.names (cloFrom X.env.cells scope.names [])) fp
  show codeAny _ _ (.compStart (.ListComp elt [⟨tg, iter, ifs, 0⟩] scope pos) 0 (.ref it) (.ref D) (compEnvC scope (cellsFrom (s3.heap.objs.size + 1) scope.names (cloFrom X.env.cells scope.names [])) s3.heap.objs.size X.env)) (compPost (model X.prog X.w) X.A X.xe use Qf (.ref D) s3.heap.objs.size) { s3 with heap := pushCells (s3.heap.push { cls := .type "dict", data := .dict #[] }) scope.names }
  have nfp : ∀ b ∈ fp, (upd H2 D (.lst [])) b = none := fun b hb => (f3 b hb).1.1
  generalize hce : compEnvC scope (cellsFrom (s3.heap.objs.size + 1) scope.names (cloFrom X.env.cells scope.names [])) s3.heap.objs.size X.env = ce at I4 pg pt pe ⊢
  have cL : ce.locals = s3.heap.objs.size := by subst hce; rfl
  generalize hH3 : upd H2 D (.lst []) = H3 at I3 I4 pg pt pe w0 nfp f3
  generalize hs4 : ({ s3 with heap := pushCells (s3.heap.push { cls := .type "dict", data := .dict #[] }) scope.names } : Shared) = s4 at I4 ⊢
  have st4 : tn 0 s4.heap := T.keep _ _ _ st3 fun b _ o e => by rw [← hs4]; exact pushCells_keeps _ _ _ _ (Heap.get?_push_of_some _ e)
  have stat : ∀ {σ' : St} {H' : Hp} {s' : Shared}, Inv (X.blk s3 H3 scope ce fp) [] σ' H' s' → (∀ b ∈ fp, H' b = none) → ∀ b ∈ fp, FpOk (X.blk s3 H3 scope ce fp) [] H' b := fun {σ' H' s'} I' hn b hb =>
    ⟨hn b hb, (I'.ok.exf b hb).1, I'.ok.exfs b hb, .inl hb, fun x c e => (I'.ok.exf b hb).2 x c e, fun p hp => absurd (show p ∈ ([] : List (Addr × Obj)) ++ [] from hp) (by simp)⟩
  have loop : codeAny (model X.prog X.w) X.A (.compLoop (.ListComp elt [⟨tg, iter, ifs, 0⟩] scope pos) 0 (.ref it) (.ref D) ce) (compPost (model X.prog X.w) X.A X.xe use Qf (.ref D) s3.heap.objs.size) s4 := by
    refine compLoop_any (fun n s' => ∃ i H', Inv (X.blk s3 H3 scope ce fp) [] (wipe σ (own.map (·.2))) H' s' ∧ tn i s'.heap ∧ (∀ b ∈ fp, H' b = none) ∧ W i n H') ?_ m0 ⟨0, H3, I4, st4, nfp, w0⟩
    rintro n s5 ⟨i, H5, I5, st5, n5, w5⟩
    rcases turn i n H5 w5 with ⟨stop, qq⟩ | ⟨go, Nx, hNx, step⟩
    · have td := T.done (X.blk s3 H3 scope ce fp) rfl rfl rfl hc i [] s5 _ H5 (fun _ _ => False) I5 (stat I5 n5) st5 stop
      refine thnF td fun r s6 ⟨hr, I6⟩ => ?_
      subst hr
      -- back in the def's context
      have I7 : Inv X pins σ H5 s6 := I3.call' (ch := fp) I6.os I6.base I6.hok I6.bare fun b hb => ⟨(f3 b hb).1.2.2.2.1, (f3 b hb).1.2.1, (f3 b hb).1.2.2.2.2.1, (f3 b hb).1.2.2.2.2.2⟩
      have nC : H5 s3.heap.objs.size = none := by
        have z : H5 ce.locals = none := I6.free
        rw [cL] at z
        exact z
      obtain ⟨m, hn, _⟩ := I6.loc
      have hn : s6.heap.Ns ce.locals m := hn
      rw [cL] at hn
      exact hRR D s3.heap.objs.size s6 m H5 I7 qq hn (I3.fpOk (Nat.le_refl _) nC)
    · have ti := T.item (X.blk s3 H3 scope ce fp) rfl rfl rfl hc i [] s5 _ H5 (fun _ _ => False) I5 (stat I5 n5) st5 go
      refine thnF ti fun r s6 ⟨u, hr, h6⟩ => ?_
      subst hr
      refine thnF h6 fun _ s7 ⟨x, H7, I7, r7, y7, st7, n7⟩ => ?_
      have I7' := I7.pinned (stat I7 n7) (T.obj _ _ st7)
      refine thnF (pg _ s7 _ H7 x u _ I7' r7 (step x H7 y7)) fun _ s8 ⟨σ8, H8, I8, hw8, q8⟩ => ?_
      refine thnF (pt _ s8 σ8 H8 _ I8 q8) fun b s9 ⟨H9, I9, q9⟩ => ?_
      -- the turn's end
      have fin : ∀ {s' : Shared} {H' : Hp}, Inv (X.blk s3 H3 scope ce fp) ([] ++ pinsAt fp s7.heap) σ8 H' s' → Nx H' → ∃ m, m < n ∧ ∃ i H', Inv (X.blk s3 H3 scope ce fp) [] (wipe σ (own.map (·.2))) H' s' ∧ tn i s'.heap ∧ (∀ b ∈ fp, H' b = none) ∧ W i m H' := fun {s' H'} I' nx => by
        obtain ⟨m', hm, w'⟩ := hNx H' nx
        have pin' : ∀ b ∈ fp, ∀ o, s7.heap.get? b = some o → s'.heap.get? b = some o ∧ H' b = none := fun b hb o e =>
          let z := I'.pin (b, o) (List.mem_append_right _ (List.mem_append_right _ (mem_pinsAt hb e)))
          ⟨z.1, z.2.1⟩
        have hl : (wipe σ (own.map (·.2))).length = σ8.length := by rw [← hw8, wipe_length]
        refine ⟨m', hm, i + 1, H', (I'.unpinned (pins := [])).weak hl (fun j v e => ?_), T.keep _ _ _ st7 fun b hb o e => (pin' b hb o e).1, fun b hb => ?_, w'⟩
        · rw [← hw8] at e
          exact (wipe_some e).1
        · obtain ⟨o, e, _⟩ := T.obj _ _ st7 b hb
          exact (pin' b hb o e).2
      cases b with
      | false =>
        simp only [Bool.false_eq_true, if_false] at q9 ⊢
        exact fin I9 q9
      | true =>
        simp only [if_true] at q9 ⊢
        refine thnF (pe _ s9 σ8 H9 _ I9 q9) fun z s10 ⟨yv, H10, I10, r10, acc, hD10, hz10, nx⟩ => ?_
        exact app_ok (X := X.blk s3 H3 scope ce fp) I10 hD10 hz10 r10 fun s11 I11 => fin I11 nx
  exact codeAny_compStart_list loop (T.self X.A 0 _ _ _ st4 loop)
/-- as a value -/
theorem pe_lc {elt tg iter : Expr} {ifs : List Expr} {scope : Scope} {own : List (Str × Nat)} {pos : Pos} {wi : TI} {g : TG} {tt : TT} {te : TE} (hc : X.calm = true) (hN : X.N.Nodup) (hi : PI X tg iter wi) (ok : BlkOk X.N X.env.scope scope own)
    (hg : ∀ (s : Shared) (H : Hp) (C : Addr) (cl : List (Str × Addr)) (fp : List Addr), PG (X.blk s H scope (compEnvC scope cl C X.env) fp) tg g) (ht : ∀ (s : Shared) (H : Hp) (C : Addr) (cl : List (Str × Addr)) (fp : List Addr), PTs (X.blk s H scope (compEnvC scope cl C X.env) fp) ifs tt)
    (he : ∀ (s : Shared) (H : Hp) (C : Addr) (cl : List (Str × Addr)) (fp : List Addr), PE (X.blk s H scope (compEnvC scope cl C X.env) fp) elt te) (hs : ∀ x, foldedSetIterable iter X.env x = pure x := by intro _; rfl) :
    PE X (.ListComp elt [⟨tg, iter, ifs, 0⟩] scope pos) (tLc wi g tt te (own.map (·.2))) := by
  intro pins s σ H Q I h
  rw [eval_ListComp]
  refine lc_core hc hN I hi ok hg ht he hs h fun D C s' m H' I' q hn f => ⟨m, hn, fun h'' sb => ?_⟩
  obtain ⟨f0, f1, f2, f3, f4, f5⟩ := f
  exact ⟨.ref D, H', I'.turned (t' := s'.toks) (fun b o hb e => (sb.2 b hb).trans e) f0 f1 f3 f4 f5, rfl, q⟩
/-- name = [..] on one line, the name a local -/
theorem ps_setLc {i : Nat} {y : Str} {py : Pos} {elt tg iter : Expr} {ifs : List Expr} {scope : Scope} {own : List (Str × Nat)} {pos spos : Pos} {wi : TI} {g : TG} {tt : TT} {te : TE} (hc : X.calm = true) (hN : X.N.Nodup) (hy : X.N[i]? = some y) (hyl : X.env.scope.names.lookup y = some .local)
    (hsw : swapsWith (.ListComp elt [⟨tg, iter, ifs, 0⟩] scope pos) (some (.Name y py)) spos.line X.env = pure true) (hi : PI X tg iter wi) (ok : BlkOk X.N X.env.scope scope own)
    (hg : ∀ (s : Shared) (H : Hp) (C : Addr) (cl : List (Str × Addr)) (fp : List Addr), PG (X.blk s H scope (compEnvC scope cl C X.env) fp) tg g) (ht : ∀ (s : Shared) (H : Hp) (C : Addr) (cl : List (Str × Addr)) (fp : List Addr), PTs (X.blk s H scope (compEnvC scope cl C X.env) fp) ifs tt)
    (he : ∀ (s : Shared) (H : Hp) (C : Addr) (cl : List (Str × Addr)) (fp : List Addr), PE (X.blk s H scope (compEnvC scope cl C X.env) fp) elt te) (hs : ∀ x, foldedSetIterable iter X.env x = pure x := by intro _; rfl) :
    PS X (.Assign [.Name y py] (.ListComp elt [⟨tg, iter, ifs, 0⟩] scope pos) spos) (tAsg (tLc wi g tt te (own.map (·.2))) (gName i)) := by
  intro pins s σ H D I h
  rw [exec_Assign_Name_used _ _ _ _ hsw]
  refine wpAny_bind (wpAny_standAt (wpAny_bind ?_))
  show wpAny _ X.A (do let _ ← comprehension (.ListComp elt [⟨tg, iter, ifs, 0⟩] scope pos) scope X.env (firstIterPos [⟨tg, iter, ifs, 0⟩] pos) (newList []) false (eval iter X.env) (some (assign (.Name y py) X.env))) _ _ s
  have h : tLc wi g tt te (own.map (·.2)) σ H (fun x H1 => gName i x σ H1 D.nx) := h
  refine wpAny_bind (thn (lc_core (Qf := fun _ s' => SP X pins D .next s') hc hN I hi ok hg ht he hs h fun L C s' m H' I' q hn f => ?_) fun _ s' hq => wpAny_pure (wpAny_pure hq))
  show wpAny _ _ (assign (.Name y py) X.env (.ref L)) _ _ _
  refine wpAny_assign_Name (store_ok2 (v := V.ref L) I' hN hy (.inl hyl) rfl (fun s2 I2 ⟨a, sb, ha⟩ => ?_) (.inr hyl))
  obtain ⟨f0, f1, f2, f3, f4, f5⟩ := f
  have haC : C ≠ a := by
    rcases ha with z | z
    · rw [z]; exact f1
    · exact fun e => f4 y a z e.symm
  refine ⟨m, hn.sameBut sb haC, fun h3 sb3 => ?_⟩
  exact ⟨_, H', I2.turned (t' := s2.toks) (fun b o hb e => (sb3.2 b hb).trans e) f0 f1 f3 f4 f5, q⟩
end
/-! ### the forms one uses -/
/-- over a range: Pv by the turn and the heap (the new list at D within) -/
theorem lc_range {lo : Int} {n : Nat} {g : TG} {tt : TT} {te : TE} {vs : List Nat} {σ : St} {H1 : Hp} {D : Addr} {Qd : Hp → Prop} (Pv : Nat → Hp → Prop) (h0 : Pv 0 (upd H1 D (.lst [])))
    (hs : ∀ i H, i < n → Pv i H → g (.int (lo + i)) (wipe σ vs) H fun σ2 H2 => wipe σ2 vs = wipe σ vs ∧ tt σ2 H2 fun b H3 =>
      if b = true then te σ2 H3 fun y H4 => ∃ acc, H4 D = some (.lst acc) ∧ acc.length < sizeLine ∧ Pv (i + 1) (upd H4 D (.lst (acc ++ [y]))) else Pv (i + 1) H3) (hd : ∀ H, Pv n H → Qd H) :
    ∃ W : Nat → Nat → Hp → Prop, (∃ m, W 0 m (upd H1 D (.lst []))) ∧ ∀ i m H, W i m H →
      ((Itr lo n).stop i H ∧ Qd H) ∨ ((Itr lo n).go i H ∧ ∃ Nx : Hp → Prop, (∀ H', Nx H' → ∃ m', m' < m ∧ W (i + 1) m' H') ∧ ∀ x H', (Itr lo n).yld i H x H' → g x (wipe σ vs) H' fun σ2 H2 => wipe σ2 vs = wipe σ vs ∧ tt σ2 H2 fun b H3 =>
        if b = true then te σ2 H3 fun y H4 => ∃ acc, H4 D = some (.lst acc) ∧ acc.length < sizeLine ∧ Nx (upd H4 D (.lst (acc ++ [y]))) else Nx H3) := by
  refine ⟨fun i m H => m = n - i ∧ i ≤ n ∧ Pv i H, ⟨n, by simp, Nat.zero_le _, h0⟩, ?_⟩
  rintro i m H ⟨rfl, hi, p⟩
  by_cases hlt : i < n
  · refine .inr ⟨hlt, Pv (i + 1), fun H' p' => ⟨n - (i + 1), by omega, rfl, hlt, p'⟩, fun x H' y => ?_⟩
    obtain ⟨e, y⟩ := y
    subst e y
    exact hs i _ hlt p
  · have e : i = n := by omega
    subst e
    exact .inl ⟨Nat.le_refl _, hd H p⟩
/-- over a list that the block leaves as it is -/
theorem lc_list {K : PySem.W.Frag} {a : Addr} {xs : List V} {g : TG} {tt : TT} {te : TE} {vs : List Nat} {σ : St} {H1 : Hp} {D : Addr} {Qd : Hp → Prop} (Pv : Nat → Hp → Prop) (h0 : Pv 0 (upd H1 D (.lst []))) (hl : ∀ i H, i ≤ xs.length → Pv i H → SqL K H a xs)
    (hs : ∀ i x H, xs[i]? = some x → Pv i H → g x (wipe σ vs) H fun σ2 H2 => wipe σ2 vs = wipe σ vs ∧ tt σ2 H2 fun b H3 =>
      if b = true then te σ2 H3 fun y H4 => ∃ acc, H4 D = some (.lst acc) ∧ acc.length < sizeLine ∧ Pv (i + 1) (upd H4 D (.lst (acc ++ [y]))) else Pv (i + 1) H3) (hd : ∀ H, Pv xs.length H → Qd H) :
    ∃ W : Nat → Nat → Hp → Prop, (∃ m, W 0 m (upd H1 D (.lst []))) ∧ ∀ i m H, W i m H →
      ((Itl K a).stop i H ∧ Qd H) ∨ ((Itl K a).go i H ∧ ∃ Nx : Hp → Prop, (∀ H', Nx H' → ∃ m', m' < m ∧ W (i + 1) m' H') ∧ ∀ x H', (Itl K a).yld i H x H' → g x (wipe σ vs) H' fun σ2 H2 => wipe σ2 vs = wipe σ vs ∧ tt σ2 H2 fun b H3 =>
        if b = true then te σ2 H3 fun y H4 => ∃ acc, H4 D = some (.lst acc) ∧ acc.length < sizeLine ∧ Nx (upd H4 D (.lst (acc ++ [y]))) else Nx H3) := by
  refine ⟨fun i m H => m = xs.length - i ∧ i ≤ xs.length ∧ Pv i H, ⟨xs.length, by simp, Nat.zero_le _, h0⟩, ?_⟩
  rintro i m H ⟨rfl, hi, p⟩
  have q := hl i H hi p
  by_cases hlt : i < xs.length
  · refine .inr ⟨⟨xs, xs[i], q, by simp [hlt]⟩, Pv (i + 1), fun H' p' => ⟨xs.length - (i + 1), by omega, rfl, hlt, p'⟩, fun x H' y => ?_⟩
    obtain ⟨e, y⟩ := y
    subst e
    exact hs i x _ (y xs q) p
  · have e : i = xs.length := by omega
    subst e
    exact .inl ⟨⟨xs, q, Nat.le_refl _⟩, hd H p⟩
def blkC (N : List Str) (sc scope : Scope) (own : List (Str × Nat)) : Bool :=
  (match scope.kind with | .function => true | _ => false) && (scope.names.all fun y => decide (scope.names.lookup y.1 = some y.2)) && (own.all fun p => decide (N[p.2]? = some p.1)) &&
    (scope.names.all fun y => match y.2 with
      | .free => (match sc.names.lookup y.1 with | some .cell => true | some .free => true | _ => false)
      | .local => decide (y.1 ∈ own.map (·.1)) || decide (y.1 ∉ N)
      | .cell => decide (y.1 ∈ own.map (·.1)) || decide (y.1 ∉ N)
      | _ => true)
theorem blkOk_by {N : List Str} {sc scope : Scope} {own : List (Str × Nat)} (h : blkC N sc scope own = true) : BlkOk N sc scope own := by
  unfold blkC at h
  simp only [Bool.and_eq_true, List.all_eq_true, decide_eq_true_eq] at h
  obtain ⟨⟨⟨h1, h2⟩, h3⟩, h4⟩ := h
  refine ⟨?_, h2, h3, fun y hy e => ?_, fun y hy e => ?_⟩
  · split at h1
    · assumption
    · cases h1
  · have q := h4 y hy
    simp only [e] at q
    split at q <;> first | exact .inl (by assumption) | exact .inr (by assumption) | cases q
  · have q := h4 y hy
    rcases e with e | e <;> (simp only [e, Bool.or_eq_true, decide_eq_true_eq] at q; exact q)
end L2
namespace L2
open PySem PySem.Spec PyProof.Rows
section
variable {prog : Program} {w : World} {A : Around} {R : Result → Shared → Prop} {s : Shared} {elt t0 i0 t1 i1 : Expr} {ifs0 ifs1 : List Expr} {scope : Scope} {pos : Pos} {it acc : Value} {env : Env}
end
section
variable {X : Cx}
end
end L2
namespace L2
open PySem PySem.Spec PyProof.Rows
/-! ### lists of pairs as tables -/
section
variable {κ : Type} [DecidableEq κ]
def valV (kvs : List (κ × V)) (k : κ) : Option V := (kvs.find? fun kv => decide (kv.1 = k)).map (·.2)
/-- in its place, or at the end -/
def putK (kvs : List (κ × V)) (k : κ) (v : V) : List (κ × V) :=
  if (kvs.any fun kv => decide (kv.1 = k)) = true then kvs.map (fun kv => if kv.1 = k then (kv.1, v) else kv) else kvs ++ [(k, v)]
theorem valV_pos {p : κ × V} {r : List (κ × V)} {k : κ} (e : p.1 = k) : valV (p :: r) k = some p.2 := by simp [valV, List.find?_cons, e]
theorem valV_neg {p : κ × V} {r : List (κ × V)} {k : κ} (e : ¬ p.1 = k) : valV (p :: r) k = valV r k := by simp [valV, List.find?_cons, e]
theorem valV_any (k : κ) : ∀ kvs : List (κ × V), (kvs.any fun kv => decide (kv.1 = k)) = (valV kvs k).isSome
  | [] => rfl
  | p :: r => by
    rw [List.any_cons]
    by_cases e : p.1 = k
    · simp only [valV_pos e, decide_eq_true e, Bool.true_or, Option.isSome_some]
    · rw [valV_neg e, decide_eq_false e, Bool.false_or]; exact valV_any k r
theorem length_putK (kvs : List (κ × V)) (k : κ) (v : V) : (putK kvs k v).length ≤ kvs.length + 1 := by
  unfold putK
  split
  · rw [List.length_map]; omega
  · rw [List.length_append, List.length_cons, List.length_nil]; omega
theorem putK_new {kvs : List (κ × V)} {k : κ} (v : V) (h : valV kvs k = none) : putK kvs k v = kvs ++ [(k, v)] := by
  unfold putK
  rw [valV_any, h]
  exact if_neg (by decide)
theorem RelO.isSome_eq {o : Option V} {u : Option Value} (r : RelO o u) : o.isSome = u.isSome := by
  cases o with
  | none => cases u with
    | none => rfl
    | some _ => exact (show False from r).elim
  | some _ => cases u with
    | none => exact (show False from r).elim
    | some _ => rfl
/-- raw tables of the same keys -/
theorem KV.val {kvs : List (κ × V)} {vs : List (κ × Value)} (r : KV kvs vs) (k : κ) : RelO (valV kvs k) (valueAt vs k) := by
  unfold KV at r
  induction r with
  | nil => exact True.intro
  | @cons p q ps qs h t ih =>
    obtain ⟨h1, h2⟩ := h
    by_cases e : p.1 = k
    · have e' : q.1 = k := h1.symm.trans e
      have b : valueAt (q :: qs) k = some q.2 := by simp [valueAt, List.find?_cons, e']
      rw [valV_pos e, b]; exact h2
    · have e' : ¬ q.1 = k := fun z => e (h1.trans z)
      have b : valueAt (q :: qs) k = valueAt qs k := by simp [valueAt, List.find?_cons, e']
      rw [valV_neg e, b]; exact ih
theorem KV.any {kvs : List (κ × V)} {vs : List (κ × Value)} (r : KV kvs vs) (k : κ) : (kvs.any fun kv => decide (kv.1 = k)) = vs.any fun kv => decide (kv.1 = k) := by
  unfold KV at r
  induction r with
  | nil => rfl
  | cons h t ih => rw [List.any_cons, List.any_cons, ih, h.1]
theorem KV.repl {kvs : List (κ × V)} {vs : List (κ × Value)} (r : KV kvs vs) (k : κ) {y : V} {u : Value} (ry : RelV y u) :
    KV (kvs.map fun kv => if kv.1 = k then (kv.1, y) else kv) (vs.map fun kv => if kv.1 = k then (kv.1, u) else kv) := by
  unfold KV at r ⊢
  induction r with
  | nil => exact .nil
  | @cons p q ps qs h t ih =>
    rw [List.map_cons, List.map_cons]
    refine .cons ?_ ih
    obtain ⟨h1, h2⟩ := h
    by_cases e : p.1 = k
    · rw [if_pos e, if_pos (h1.symm.trans e)]; exact ⟨h1, ry⟩
    · rw [if_neg e, if_neg (fun z => e (h1.trans z))]; exact ⟨h1, h2⟩
theorem KV.put {kvs : List (κ × V)} {vs : List (κ × Value)} (r : KV kvs vs) (k : κ) {y : V} {u : Value} (ry : RelV y u) : KV (putK kvs k y) (stored vs k u) := by
  unfold putK stored
  rw [r.any k]
  by_cases e : (vs.any fun kv => decide (kv.1 = k)) = true
  · rw [if_pos e, if_pos e]; exact r.repl k ry
  · rw [if_neg e, if_neg e]; exact Paired.snoc r ⟨rfl, ry⟩
theorem KV.length {kvs : List (κ × V)} {vs : List (κ × Value)} (r : KV kvs vs) : kvs.length = vs.length := Paired.length r
end
/-! ### a tracked dict, its keys ints and texts or tuples of these -/
theorem kV_is {P : Program} {w : World} {k : Key} {u : Value} (r : RelV (kV k) u) : (mixKind P w).is k u = true := by
  cases k with
  | inl i => obtain ⟨t, e⟩ := (show ∃ t, u = Value.int i t from r); subst e; exact mixKind_int P w i t
  | inr x => obtain ⟨t, e⟩ := (show ∃ t, u = Value.str x t from r); subst e; exact mixKind_str P w x t
theorem items_are {P : Program} {w : World} : ∀ {ks : List Key} {us : List Value}, Vals (ks.map kV) us → ItemsAre (mixKind P w) ks us
  | [], _, r => by rw [List.map_nil] at r; cases r; exact .nil
  | k :: ks, _, r => by
    rw [List.map_cons] at r
    cases r with
    | cons h t => exact .cons (kV_is h) (items_are t)
/-- raw entries of a dict with tuple keys -/
abbrev KT (H : Hp) : List (List Key × V) → List (List Key × Addr × Value) → Prop := Paired fun p q => p.1 = q.1 ∧ H q.2.1 = some (.tup (p.1.map kV)) ∧ RelV p.2 q.2.2
theorem KT.val {H : Hp} {kvs : List (List Key × V)} {xs : List (List Key × Addr × Value)} (r : KT H kvs xs) (k : List Key) : RelO (valV kvs k) ((atKey xs k).map (·.2)) := by
  induction r with
  | nil => exact True.intro
  | @cons p q ps qs h t ih =>
    obtain ⟨h1, _, h2⟩ := h
    by_cases e : p.1 = k
    · have e' : q.1 = k := h1.symm.trans e
      have b : atKey (q :: qs) k = some q.2 := by simp [atKey, List.find?_cons, e']
      rw [valV_pos e, b]; exact h2
    · have e' : ¬ q.1 = k := fun z => e (h1.trans z)
      have b : atKey (q :: qs) k = atKey qs k := by simp [atKey, List.find?_cons, e']
      rw [valV_neg e, b]; exact ih
theorem KT.repl {H : Hp} {kvs : List (List Key × V)} {xs : List (List Key × Addr × Value)} (r : KT H kvs xs) (k : List Key) {y : V} {u : Value} (ry : RelV y u) :
    KT H (kvs.map fun kv => if kv.1 = k then (kv.1, y) else kv) (xs.map (putAt k u)) := by
  induction r with
  | nil => exact .nil
  | @cons p q ps qs h t ih =>
    rw [List.map_cons, List.map_cons]
    refine .cons ?_ ih
    obtain ⟨h1, h2, h3⟩ := h
    unfold putAt
    by_cases e : p.1 = k
    · rw [if_pos e, if_pos (h1.symm.trans e)]; exact ⟨h1, h2, ry⟩
    · rw [if_neg e, if_neg (fun z => e (h1.trans z))]; exact ⟨h1, h2, h3⟩
theorem KT.put {H : Hp} {kvs : List (List Key × V)} {xs : List (List Key × Addr × Value)} (r : KT H kvs xs) (k : List Key) {b : Addr} {y : V} {u : Value} (hb : H b = some (.tup (k.map kV))) (ry : RelV y u) :
    KT H (putK kvs k y) (storedH xs k b u) := by
  have e : (kvs.any fun kv => decide (kv.1 = k)) = (atKey xs k).isSome := by
    rw [valV_any, (r.val k).isSome_eq, Option.isSome_map]
  unfold putK storedH
  rw [e]
  by_cases q : (atKey xs k).isSome = true
  · rw [if_pos q, if_pos q]; exact r.repl k ry
  · rw [if_neg q, if_neg q]; exact Paired.snoc r ⟨rfl, hb, ry⟩
theorem KT.keeps {H H' : Hp} {kvs : List (List Key × V)} {xs : List (List Key × Addr × Value)} (r : KT H kvs xs) (ht : ∀ b ys, H b = some (.tup ys) → H' b = some (.tup ys)) : KT H' kvs xs :=
  Paired.mapP r fun _ _ z => ⟨z.1, ht _ _ z.2.1, z.2.2⟩
section
variable {P : Program} {w : World} {H : Hp} {h : Heap} {a : Addr}
theorem rd_of {u : HO} (ok : HOk P w H h) (e : Rd H a u) : ObjOk P w H h a u := e.ok ok
theorem dk_rd {kvs : List (Key × V)} (ok : HOk P w H h) (e : Rd H a (.dK kvs)) : kvs.length ≤ sizeLine ∧ (a == sysModules) = false ∧ ∃ vs, KV kvs vs ∧ h.DictOf (mixKind P w) a vs :=
  show ObjOk P w H h a (.dK kvs) from rd_of ok e
theorem dk_of {kvs : List (Key × V)} (ok : HOk P w H h) (e : H a = some (.dK kvs)) : kvs.length ≤ sizeLine ∧ (a == sysModules) = false ∧ ∃ vs, KV kvs vs ∧ h.DictOf (mixKind P w) a vs := dk_rd ok (.inl e)
/-- a tracked tuple of ints and texts is a key -/
theorem key_of {ks : List Key} (ok : HOk P w H h) (e : H a = some (.tup (ks.map kV))) : (tupleKind (mixKind P w)).is h ks a := by
  obtain ⟨_, its, r, o, h1, h2, n, h3⟩ := (show ObjOk P w H h a (.tup (ks.map kV)) from ok a _ e)
  exact ⟨o, its.toArray, n, h1, h2, h3, by simpa using items_are r⟩
theorem dt_rd {kvs : List (List Key × V)} (ok : HOk P w H h) (e : Rd H a (.dT kvs)) : kvs.length ≤ sizeLine ∧ (a == sysModules) = false ∧
    ∃ xs, KT H kvs xs ∧ h.DictOfH (tupleKind (mixKind P w)) a xs := by
  obtain ⟨z, y, xs, r, o, es, ep, h1, h2, h3, h4, h5⟩ := (show ObjOk P w H h a (.dT kvs) from rd_of ok e)
  refine ⟨z, y, xs, r, o, es, ep, h1, h2, h3, h4, fun x hx => ?_, h5⟩
  have all : ∀ {l : List (List Key × V)} {m : List (List Key × Addr × Value)}, KT H l m → ∀ x ∈ m, (tupleKind (mixKind P w)).is h x.1 x.2.1 := by
    intro l m q
    induction q with
    | nil => intro x hx; exact nomatch hx
    | @cons p q ps qs hq t ih =>
      intro x hx
      rcases List.mem_cons.mp hx with e | hx
      · subst e
        exact key_of ok (by rw [← hq.1]; exact hq.2.1)
      · exact ih x hx
  exact all r x hx
theorem dt_of {kvs : List (List Key × V)} (ok : HOk P w H h) (e : H a = some (.dT kvs)) : kvs.length ≤ sizeLine ∧ (a == sysModules) = false ∧
    ∃ xs, KT H kvs xs ∧ h.DictOfH (tupleKind (mixKind P w)) a xs := dt_rd ok (.inl e)
end
/-- what the dict at a holds at the key y -/
def DGet (H : Hp) (a : Addr) (y : V) (r : Option V) : Prop :=
  (∃ kvs k, Rd H a (.dK kvs) ∧ y = kV k ∧ r = valV kvs k) ∨ ∃ kvs k b, Rd H a (.dT kvs) ∧ y = .ref b ∧ H b = some (.tup (k.map kV)) ∧ r = valV kvs k
/-- the heap behind a[y] = v -/
def DPut (H : Hp) (a : Addr) (y v : V) (H' : Hp) : Prop :=
  (∃ kvs k, H a = some (.dK kvs) ∧ y = kV k ∧ kvs.length < sizeLine ∧ H' = upd H a (.dK (putK kvs k v))) ∨
  ∃ kvs k b, H a = some (.dT kvs) ∧ y = .ref b ∧ H b = some (.tup (k.map kV)) ∧ kvs.length < sizeLine ∧ H' = upd H a (.dT (putK kvs k v))
theorem DGet.k {H : Hp} {a : Addr} {kvs : List (Key × V)} {k : Key} (e : H a = some (.dK kvs)) : DGet H a (kV k) (valV kvs k) := .inl ⟨kvs, k, .inl e, rfl, rfl⟩
theorem DPut.k {H : Hp} {a : Addr} {kvs : List (Key × V)} {k : Key} {v : V} (e : H a = some (.dK kvs)) (hl : kvs.length < sizeLine) : DPut H a (kV k) v (upd H a (.dK (putK kvs k v))) := .inl ⟨kvs, k, e, rfl, hl, rfl⟩
section
variable {X : Cx} {pins : List (Addr × Obj)} {σ : St} {H : Hp} {s : Shared} {a : Addr} {y v : V} {u r : Value} {o : Option V} {A : Around} {E : Value → Shared → Prop}
theorem Inv.big (I : Inv X pins σ H s) : sysModules < s.heap.objs.size := by
  have h : mainGlobals < s.heap.objs.size := (I.mod.glob.keeps I.bk).lt
  exact Nat.lt_trans (by decide) h
/-- d[y], there -/
theorem d_getItem {Q : Value → Shared → Prop} (hu : A.units + 1 < cLine) (I : Inv X pins σ H s) (g : DGet H a y (some v)) (ry : RelV y u) (h : ∀ w' s', Inv X pins σ H s' → RelV v w' → Q w' s') :
    wpAny (model X.prog X.w) A (getItem (.ref a) u) Q E s := by
  rcases g with ⟨kvs, k, e, ey, l⟩ | ⟨kvs, k, b, e, ey, eb, l⟩
  · subst ey
    obtain ⟨z, hd, vs, rel, dd⟩ := dk_rd I.hok e
    obtain ⟨w', hw, rw'⟩ := RelO.some_of (v := v) (o := valueAt vs k) (by rw [l]; exact rel.val k)
    exact wpAny_getItem_of (kV_is ry) dd.mapOf hw (h w' _ (I.tok _) rw')
  · subst ey
    cases (show u = Value.ref b from ry)
    obtain ⟨z, hd, xs, rel, dd⟩ := dt_rd I.hok e
    obtain ⟨w', hw, rw'⟩ := RelO.some_of (v := v) (o := (atKey xs k).map (·.2)) (by rw [l]; exact rel.val k)
    obtain ⟨p, hp, hp2⟩ := Option.map_eq_some_iff.mp hw
    refine wpAny_getItem_heap (tupleKind_room_in1 hu) (key_of I.hok eb) dd hp ?_
    rw [hp2]
    exact h w' _ (I.tok _) rw'
/-- y in d -/
theorem d_in {Q : Value → Shared → Prop} (hu : A.units + 1 < cLine) (I : Inv X pins σ H s) (g : DGet H a y o) (ry : RelV y u) (h : ∀ s', Inv X pins σ H s' → Q (.bool o.isSome) s') :
    wpAny (model X.prog X.w) A (compareOp .In u (.ref a)) Q E s := by
  rcases g with ⟨kvs, k, e, ey, l⟩ | ⟨kvs, k, b, e, ey, eb, l⟩
  · subst ey
    obtain ⟨z, hd, vs, rel, dd⟩ := dk_rd I.hok e
    refine wpAny_in_of (kV_is ry) hd dd.mapOf ?_
    rw [← (rel.val k).isSome_eq, ← l]
    exact h _ (I.tok _)
  · subst ey
    cases (show u = Value.ref b from ry)
    obtain ⟨z, hd, xs, rel, dd⟩ := dt_rd I.hok e
    refine wpAny_in_heap (tupleKind_room_in1 hu) (key_of I.hok eb) hd dd ?_
    have q := (rel.val k).isSome_eq
    rw [Option.isSome_map] at q
    rw [← q, ← l]
    exact h _ (I.tok _)
theorem d_notIn {Q : Value → Shared → Prop} (hu : A.units + 1 < cLine) (I : Inv X pins σ H s) (g : DGet H a y o) (ry : RelV y u) (h : ∀ s', Inv X pins σ H s' → Q (.bool (!o.isSome)) s') :
    wpAny (model X.prog X.w) A (compareOp .NotIn u (.ref a)) Q E s := by
  rcases g with ⟨kvs, k, e, ey, l⟩ | ⟨kvs, k, b, e, ey, eb, l⟩
  · subst ey
    obtain ⟨z, hd, vs, rel, dd⟩ := dk_rd I.hok e
    refine wpAny_notIn_of (kV_is ry) hd dd.mapOf ?_
    rw [← (rel.val k).isSome_eq, ← l]
    exact h _ (I.tok _)
  · subst ey
    cases (show u = Value.ref b from ry)
    obtain ⟨z, hd, xs, rel, dd⟩ := dt_rd I.hok e
    refine wpAny_notIn_heap (tupleKind_room_in1 hu) (key_of I.hok eb) hd dd ?_
    have q := (rel.val k).isSome_eq
    rw [Option.isSome_map] at q
    rw [← q, ← l]
    exact h _ (I.tok _)
/-- a dict's object is replaced -/
theorem d_write {h' : Heap} {t' : Nat} {ob : HO} (I : Inv X pins σ H s) (mu : Mut (H a)) (hs : Heap.SameBut a s.heap h') (he : ∃ q, h'.get? a = some q) (new : ObjOk X.prog X.w (upd H a ob) h' a ob) :
    Inv X pins σ (upd H a ob) { s with heap := h', toks := t' } :=
  I.write (x := a) (e := a) mu (.inl rfl) (fun b q hb z => (hs.2 b hb).trans z) he new
theorem dk_new {P : Program} {w : World} {H' : Hp} {h' : Heap} {kvs : List (Key × V)} {vs : List (Key × Value)} (z : kvs.length ≤ sizeLine) (hd : (a == sysModules) = false) (rel : KV kvs vs) (dd : h'.DictOf (mixKind P w) a vs) :
    ObjOk P w H' h' a (.dK kvs) := ⟨z, hd, vs, rel, dd⟩
/-- d[y] = v -/
theorem d_setItem {H' : Hp} {Q : Unit → Shared → Prop} (hu : A.units + 1 < cLine) (I : Inv X pins σ H s) (g : DPut H a y v H') (ry : RelV y u) (rv : RelV v r) (h : ∀ s', Inv X pins σ H' s' → Q () s') :
    wpAny (model X.prog X.w) A (setItem (.ref a) u r) Q E s := by
  rcases g with ⟨kvs, k, e, ey, l, eH⟩ | ⟨kvs, k, b, e, ey, eb, l, eH⟩
  · subst ey eH
    obtain ⟨z, hd, vs, rel, dd⟩ := dk_of I.hok e
    have hz : vs.length ≤ sizeLine := by rw [← rel.length]; exact z
    have hl : (putK kvs k v).length ≤ sizeLine := by have := length_putK kvs k v; omega
    refine wpAny_setItem_pairs (hsz := hz) (kV_is ry) dd fun h' dd' hs => h _ ?_
    have he : ∃ q, h'.get? a = some q := let ⟨q, _, _, hq, _⟩ := dd'; ⟨q, hq⟩
    exact d_write I (by rw [e]; exact True.intro) hs he (dk_new hl hd (rel.put k rv) dd')
  · subst ey eH
    cases (show u = Value.ref b from ry)
    obtain ⟨z, hd, xs, rel, dd⟩ := dt_of I.hok e
    have hz : xs.length ≤ sizeLine := by rw [← Paired.length rel]; exact z
    have hl : (putK kvs k v).length ≤ sizeLine := by have := length_putK kvs k v; omega
    refine wpAny_setItem_heap (hsz := hz) (tupleKind_room_in1 hu) (key_of I.hok eb) dd fun h' dd' hs => h _ ?_
    obtain ⟨q, es, ep, hq, h2, h3, h4, _, h5⟩ := dd'
    refine d_write I (by rw [e]; exact True.intro) hs ⟨q, hq⟩ ⟨hl, hd, _, (rel.put k eb rv).keeps fun c ys ec => ?_, q, es, ep, hq, h2, h3, h4, h5⟩
    rw [upd_ne (ne_of ec e (fun z => nomatch z))]
    exact ec
end
section
variable {X : Cx} {pins : List (Addr × Obj)} {σ : St} {H : Hp} {s : Shared} {a : Addr} {kvs : List (Key × V)} {k : Key} {u : Value} {A : Around} {E : Value → Shared → Prop}
end
/-! ### readings and rules -/
/-- the element of a subscription, not a slice -/
def NoSl (i : Expr) : Prop := ∀ ov iv, subscripted i false ov iv = operate [ov, iv] (getItem ov iv)
theorem subD_of {prog : Program} {w : World} {A : Around} {E : Value → Shared → Prop} {s : Shared} {env : Env} {value slice : Expr} {pos : Pos} {T id : String} {Q : Value → Shared → Prop}
    (hl : typeLookup (.type T) "__getitem__" = pure (some (.builtin id))) (hs : NoSl slice)
    (h : wpAny (model prog w) A (eval value env) (fun o s₁ => wpAny (model prog w) A (eval slice env) (fun i s₂ => s₂.TypeIs o T ∧ wpAny (model prog w) A (getItem o i) Q E s₂) E s₁) E s) :
    wpAny (model prog w) A (eval (.Subscript value slice pos) env) Q E s := by
  refine Subscript_ (wpAny_mono h (fun o s₁ h₁ => wpAny_mono h₁ (fun i s₂ h₂ => ?_) fun _ _ x => x) fun _ _ x => x)
  obtain ⟨hT, h₂⟩ := h₂
  unfold subscriptTail
  refine wpAny_bind ?_
  rw [getitemInPython_of_ne hT.not_modules]
  refine wpAny_bind (wpAny_specialOf hT hl ?_)
  have fin : wpAny (model prog w) A (subscripted slice false o i) (fun r s₃ => wpAny (model prog w) A (letTemporaryGo value o r >>= fun _ => pure r) Q E s₃) E s₂ := by
    rw [hs o i]
    exact wpAny_operating (wpAny_mono h₂ (fun r s₃ h₃ => wpAny_bind (wpAny_letTemporaryGo (wpAny_pure h₃))) fun _ _ x => x)
  first
    | exact wpAny_pure (wpAny_bind fin)
    | exact wpAny_bind (wpAny_pure (wpAny_bind fin))
    | exact wpAny_bind fin
theorem dict_typeIs {X : Cx} {pins : List (Addr × Obj)} {σ : St} {H : Hp} {s : Shared} {a : Addr} {y : V} {o : Option V} (I : Inv X pins σ H s) (g : DGet H a y o) : s.TypeIs (.ref a) "dict" := by
  rcases g with ⟨kvs, k, e, _, _⟩ | ⟨kvs, k, b, e, _, _, _⟩
  · obtain ⟨_, _, vs, _, dd⟩ := dk_rd I.hok e
    exact dd.typeIs
  · obtain ⟨_, _, xs, _, dd⟩ := dt_rd I.hok e
    exact dd.typeIs
/-- d[y] -/
def tDGet (td ty : TE) : TE := fun σ H Q => td σ H fun x H1 => ty σ H1 fun y H2 => ∃ a v, x = .ref a ∧ DGet H2 a y (some v) ∧ Q v H2
/-- y in d, y not in d -/
def tDIn (ty td : TE) : TE := fun σ H Q => ty σ H fun y H1 => td σ H1 fun x H2 => ∃ a o, x = .ref a ∧ DGet H2 a y o ∧ Q (.bl o.isSome) H2
def tDNotIn (ty td : TE) : TE := fun σ H Q => ty σ H fun y H1 => td σ H1 fun x H2 => ∃ a o, x = .ref a ∧ DGet H2 a y o ∧ Q (.bl (!o.isSome)) H2
/-- d[y] = v -/
def sDPut (td ty tv : TE) : TS := fun D σ H => tv σ H fun v H1 => td σ H1 fun x H2 => ty σ H2 fun y H3 => ∃ a H4, x = .ref a ∧ DPut H3 a y v H4 ∧ D.nx σ H4
section
variable {X : Cx} {o i e value : Expr} {pos pos' tpos : Pos} {td ty tv : TE}
theorem pe_dget (hu : X.A.units + 1 < cLine) (ho : PE X o td) (hi : PE X i ty) (hs : NoSl i) : PE X (.Subscript o i pos) (tDGet td ty) := by
  intro pins s σ H Q I h
  refine subD_of PySem.F.slot_dict_getitem.lookup hs (thn (ho pins s σ H _ I h) fun u s1 ⟨x, H1, I1, rx, q1⟩ => thn (hi pins s1 σ H1 _ I1 q1) fun iv s2 ⟨y, H2, I2, ry, a, v, ex, g, q2⟩ => ?_)
  subst ex
  obtain rfl : u = Value.ref a := rx
  exact ⟨dict_typeIs I2 g, d_getItem hu I2 g ry fun w' s3 I3 rw' => ⟨v, H2, I3, rw', q2⟩⟩
theorem pc_din (hu : X.A.units + 1 < cLine) (hi : PE X i ty) (ho : PE X o td) : PC X .In i o (tDIn ty td) := by
  intro pins s σ H Q I h
  refine thn (hi pins s σ H _ I h) fun iv s1 ⟨y, H1, I1, ry, q1⟩ => thn (ho pins s1 σ H1 _ I1 q1) fun u s2 ⟨x, H2, I2, rx, a, ov, ex, g, q2⟩ => ?_
  subst ex
  obtain rfl : u = Value.ref a := rx
  exact d_in hu I2 g ry fun s3 I3 => ⟨.bl ov.isSome, H2, I3, rfl, q2⟩
theorem pc_dnotin (hu : X.A.units + 1 < cLine) (hi : PE X i ty) (ho : PE X o td) : PC X .NotIn i o (tDNotIn ty td) := by
  intro pins s σ H Q I h
  refine thn (hi pins s σ H _ I h) fun iv s1 ⟨y, H1, I1, ry, q1⟩ => thn (ho pins s1 σ H1 _ I1 q1) fun u s2 ⟨x, H2, I2, rx, a, ov, ex, g, q2⟩ => ?_
  subst ex
  obtain rfl : u = Value.ref a := rx
  exact d_notIn hu I2 g ry fun s3 I3 => ⟨.bl (!ov.isSome), H2, I3, rfl, q2⟩
theorem ps_dput (hu : X.A.units + 1 < cLine) (ho : PE X o td) (hi : PE X i ty) (hv : PE X value tv) (hs : swapsWith value (some (.Subscript o i pos')) pos.line X.env = pure false) :
    PS X (.Assign [.Subscript o i pos'] value pos) (sDPut td ty tv) := by
  intro pins s σ H D I h
  refine wpAny_Assign_Subscript (thn (hv pins s σ H _ I h) fun r s1 ⟨v, H1, I1, rv, q1⟩ => thn (ho pins s1 σ H1 _ I1 q1) fun u s2 ⟨x, H2, I2, rx, q2⟩ => thn (hi pins s2 σ H2 _ I2 q2) fun iv s3 ⟨y, H3, I3, ry, a, H4, ex, g, q3⟩ => ?_) hs
  subst ex
  obtain rfl : u = Value.ref a := rx
  exact d_setItem hu I3 g ry rv fun s4 I4 => ⟨σ, H4, I4, q3⟩
end
/-! ### displays -/
theorem dk_empty {P : Program} {w : World} {H : Hp} (h : Heap) (hb : sysModules < h.objs.size) : ObjOk P w H (h.push { cls := .type "dict", data := .dict #[] }) h.objs.size (.dK []) :=
  ⟨Nat.zero_le _, beq_eq_false_iff_ne.mpr (Ne.symm (Nat.ne_of_lt hb)), [], .nil, Heap.DictOf.new h⟩
/-- {}, to be a dict of the kind that is wanted -/
def tDNewK : TE := fun _ H Q => ∀ p, H p = none → Q (.ref p) (upd H p (.dK []))
section
variable {X : Cx} {pos : Pos}
theorem pe_dnewK : PE X (.Dict [] [] pos) tDNewK := fun pins s σ H Q I h =>
  wpAny_Dict_empty ⟨.ref s.heap.objs.size, _, I.laid (a := s.heap.objs.size) (o := .dK []) (t' := s.toks) (fun _ _ q => Heap.get?_push_of_some _ q) (Nat.le_refl _) (dk_empty s.heap I.big), rfl, h _ (I.hok.fresh (Nat.le_refl _))⟩
end
/-! ### methods -/
section
variable {X : Cx} {pins : List (Addr × Obj)} {σ : St} {H : Hp} {s : Shared} {a : Addr} {y d : V} {u r : Value} {o : Option V} {A : Around} {E : Value → Shared → Prop}
end
section
variable {X : Cx} {o e f : Expr} {apos cpos : Pos} {td ty tx : TE}
end
/-! ### dict(d): a copy -/
section
variable {X : Cx} {pins : List (Addr × Obj)} {σ : St} {H : Hp} {s : Shared} {a : Addr} {kvs : List (Key × V)} {A : Around} {E : Value → Shared → Prop}
end
section
variable {X : Cx} {pins : List (Addr × Obj)} {σ : St} {H : Hp} {s : Shared} {a : Addr} {y : V} {u : Value} {A : Around} {E : Value → Shared → Prop}
end
end L2
namespace L2
open PySem PySem.Spec PyProof.Rows
section
variable {prog : Program} {w : World} {A : Around} {E : Value → Shared → Prop}
end
section
variable {X : Cx}
end
end L2
namespace L2
open PySem PySem.Spec PyProof.Rows
section
variable {X : Cx} {pins : List (Addr × Obj)} {σ : St} {H : Hp} {s : Shared} {h' : Heap}
/-! ### locking a thing while a statement runs -/
theorem Inv.lock {d : Addr} {u : HO} (I : Inv X pins σ H s) (h : H d = some u) (mu : Mut (some u)) : ∃ od, Inv X pins σ (upd H d (.frz od u)) s := by
  have x := I.hok d u h
  have ex : ∃ od, s.heap.get? d = some od := by
    cases u with
    | lst xs => obtain ⟨_, _, _, _, e⟩ := x; exact ⟨_, e⟩
    | dK kvs => obtain ⟨_, _, _, _, o, _, _, e, _⟩ := x; exact ⟨o, e⟩
    | dT kvs => obtain ⟨_, _, _, _, o, _, _, e, _⟩ := x; exact ⟨o, e⟩
    | set S n => obtain ⟨o, _, _, _, e, _⟩ := x; exact ⟨o, e⟩
    | ins C dx fs => obtain ⟨_, _, _, e, _⟩ := x; exact ⟨_, e⟩
    | ext φ => obtain ⟨_, ⟨_, e⟩, _⟩ := x; exact ⟨_, e⟩
    | _ => exact False.elim mu
  obtain ⟨od, e⟩ := ex
  have new : ObjOk X.prog X.w (upd H d (.frz od u)) s.heap d (.frz od u) := by
    refine ⟨e, x.stay (fun b v _ q => q) (fun b q => ?_) fun b xs q => ?_⟩
    · rw [upd_ne (fun z => by rw [z, h] at q; cases q; exact mu)]; exact q
    · rw [upd_ne (fun z => by rw [z, h] at q; cases q; exact mu)]; exact q
  exact ⟨od, I.write (x := d) (e := d) (t' := s.toks) (h' := s.heap) (by rw [h]; exact mu) (.inl rfl) (fun b v _ q => q) ⟨od, e⟩ new⟩
theorem Inv.nofrz {d : Addr} {u : HO} (I : Inv X pins σ H s) (h : H d = some u) (mu : Mut (some u)) : ∀ o' u', X.H_0 d ≠ some (.frz o' u') := fun o' u' e => by
  have q := I.base.frzs d o' u' e
  rw [h] at q
  cases q
  exact mu
theorem Inv.unlock {d : Addr} {od : Obj} {u : HO} (I : Inv X pins σ H s) (h : H d = some (.frz od u)) (hn : ∀ o' u', X.H_0 d ≠ some (.frz o' u')) : Inv X pins σ (upd H d u) s := by
  have neH : ∀ b o, H b = some o → (∀ o' u', o ≠ .frz o' u') → b ≠ d := fun b o e hne z => by
    rw [z, h] at e
    cases e
    exact hne _ _ rfl
  have neN : ∀ b, H b = none → b ≠ d := fun b e z => by rw [z, h] at e; cases e
  refine ⟨I.ok, I.os, I.bare, ⟨I.base.keep, I.base.slot, fun b o e n hx => ?_, I.base.there, fun b xs e => ?_, fun b o x e => ?_, fun b ps e => ?_⟩, I.loc, I.cell, ?_, fun x c e => ?_, fun p hp => ?_, fun b o e => ?_, I.len⟩
  · rw [upd_ne (neN b (I.base.free b o e n hx))]; exact I.base.free b o e n hx
  · have q := I.base.tups b xs e
    rw [upd_ne (neH b _ q (fun _ _ z => nomatch z))]; exact q
  · have q := I.base.frzs b o x e
    rw [upd_ne (fun z => by rw [z] at e; exact hn _ _ e)]; exact q
  · obtain ⟨m, q⟩ := I.base.tbls b ps e
    exact ⟨m, by rw [upd_ne (neH b _ q (fun _ _ z => nomatch z))]; exact q⟩
  · rw [upd_ne (neN _ I.free)]; exact I.free
  · rw [upd_ne (neN c (I.freeC x c e))]; exact I.freeC x c e
  · obtain ⟨e, n, r⟩ := I.pin p hp
    exact ⟨e, by rw [upd_ne (neN _ n)]; exact n, r⟩
  · by_cases hb : b = d
    · rw [hb, upd_same] at e
      cases e
      rw [hb]
      obtain ⟨_, x⟩ := I.hok d _ h
      exact x.stay (fun c v _ q => q) (fun c q => by rw [upd_ne (neH c _ q (fun _ _ z => nomatch z))]; exact q) fun c xs q => by rw [upd_ne (neH c _ q (fun _ _ z => nomatch z))]; exact q
    · rw [upd_ne hb] at e
      exact (I.hok b o e).stay (fun c v _ q => q) (fun c q => by rw [upd_ne (neH c _ q (fun _ _ z => nomatch z))]; exact q) fun c xs q => by rw [upd_ne (neH c _ q (fun _ _ z => nomatch z))]; exact q
end
/-- the statement runs while the thing at d is locked (read, not written); d and what stands there are the reading's choice -/
def tLock (t : TS) : TS := fun D σ H => ∃ d u, H d = some u ∧ Mut (some u) ∧ ∀ od, t ⟨fun σ' H' => H' d = some (.frz od u) ∧ D.nx σ' (upd H' d u), fun v H' => H' d = some (.frz od u) ∧ D.rt v (upd H' d u), fun σ' H' => H' d = some (.frz od u) ∧ D.bk σ' (upd H' d u), fun σ' H' => H' d = some (.frz od u) ∧ D.ct σ' (upd H' d u)⟩ σ (upd H d (.frz od u))
section
variable {X : Cx}
theorem ps_lock {st : Stmt} {t : TS} (h : PS X st t) : PS X st (tLock t) := by
  intro pins s σ H D I hw
  obtain ⟨d, u, hd, mu, hw⟩ := hw
  obtain ⟨od, I1⟩ := I.lock hd mu
  refine thn (h pins s σ _ _ I1 (hw od)) fun f s1 q => ?_
  cases f with
  | next => obtain ⟨σ', H', I2, e, q⟩ := q; exact ⟨σ', _, I2.unlock e (I.nofrz hd mu), q⟩
  | brk => obtain ⟨σ', H', I2, e, q⟩ := q; exact ⟨σ', _, I2.unlock e (I.nofrz hd mu), q⟩
  | cont => obtain ⟨σ', H', I2, e, q⟩ := q; exact ⟨σ', _, I2.unlock e (I.nofrz hd mu), q⟩
  | ret v => obtain ⟨x, σ', H', I2, r, e, q⟩ := q; exact ⟨x, σ', _, I2.unlock e (I.nofrz hd mu), r, q⟩
/-! ### one iterator just laid -/
theorem pi_one {tg : Expr} {pins : List (Addr × Obj)} {σ : St} {H : Hp} {s : Shared} {R : It → Hp → Prop} {J : It} {tn : Nat → Heap → Prop} {tk : Nat} (I : Inv X pins σ H s) (o : Obj)
    (T : Turn X.prog X.w X.K tg J [s.heap.objs.size] s.heap.objs.size tn) (st : tn 0 (s.heap.push o)) (q : R J H) : PIE X pins σ tg R (.ref s.heap.objs.size) { s with heap := s.heap.push o, toks := tk } := by
  refine ⟨s.heap.objs.size, [s.heap.objs.size], tn, J, H, rfl, I.kept fun b ob e => Heap.get?_push_of_some _ e, T, st, fun b hb => ?_, q⟩
  have e : b = s.heap.objs.size := by simpa using hb
  subst e
  exact I.fpOk (Nat.le_refl _) (I.hok.fresh (Nat.le_refl _))
end
/-! ### range with a step -/
section
variable {X : Cx} {tg : Expr}
end
/-! ### reversed(list) -/
section
variable {X : Cx} {tg : Expr}
end
/-! ### a str -/
/-! ### a dict's keys: any dict's entries -/
section
variable {prog : Program} {w : World} {A : Around} {E : Value → Shared → Prop} {s : Shared}
theorem iter_keys {d : Addr} {o : Obj} {es : Array DictEntry} {ep : Nat} {Q : Value → Shared → Prop} (hd : (d == sysModules) = false) (ho : s.heap.get? d = some o) (hc : o.ExactDict) (hdat : o.data = .dict es ep)
    (hQ : Q (.ref s.heap.objs.size) { s with heap := s.heap.push { cls := .type "dict_keyiterator", data := .fields #[.ref d, .int 0 0, .int es.size 0, .int ep 0] } }) :
    wpAny (model prog w) A (pyIter (.ref d)) Q E s := by
  have hT : s.TypeIs (.ref d) "dict" := ⟨o, ho, hc.1⟩
  refine wpAny_pyIter_slot hT F.slot_dict_iter (wpAny_call_entry F.slot_dict_iter hT F.entry_dict_iter ?_ (F.args_dict_iter_1 _))
  unfold Builtin.«dict.__iter__»
  refine wpAny_bind ?_
  unfold Builtin.Dict.dictSlotNone
  refine wpAny_bind (wpAny_notOrdered_dict hT ?_)
  show wpAny _ _ (pure (Value.ref d)) _ _ s
  refine wpAny_pure ?_
  show wpAny _ _ (Builtin.Dict.showsAll d >>= _) _ _ s
  unfold Builtin.Dict.showsAll
  rw [if_neg (by rw [hd]; exact Bool.false_ne_true)]
  refine wpAny_bind (wpAny_pure ?_)
  refine wpAny_bind (wpAny_dictEntries ho hdat ?_)
  refine wpAny_bind (wpAny_dictEpoch ho hdat ?_)
  refine wpAny_bind (wpAny_newObj_type (wpAny_pure ⟨_, rfl, "dict_keyiterator", _, ⟨_, Heap.get?_push_size _ rfl, rfl⟩, F.slot_dict_keyiterator_next.lookup, ?_⟩))
  simpa [rawInt] using hQ
theorem next_key_item {it d : Addr} {i n ep : Nat} {od : Obj} {es : Array DictEntry} {en : DictEntry} {Q : Option Value → Shared → Prop} (hit : s.heap.IsKeyIter it d i n ep) (hod : s.heap.get? d = some od) (hdd : od.data = .dict es ep)
    (hsz : es.size = n) (hx : es[i]? = some en) (hQ : ∀ h', h'.IsKeyIter it d (i + 1) n ep → Heap.SameBut it s.heap h' → Q (some en.key) { s with heap := h' }) : wpAny (model prog w) A (pyNext (.ref it)) Q E s := by
  obtain ⟨o, ho, hc, hd⟩ := id hit
  unfold pyNext
  refine wpAny_bind (wpAny_attempt (wpAny_callSpecial?_slot (name := Str.ofString "__next__") hit.typeIs F.slot_dict_keyiterator_next
    (wpAny_call_entry F.slot_dict_keyiterator_next hit.typeIs F.entry_dict_keyiterator_next ?_ (F.args_dict_keyiterator_next_1 _))))
  refine wpAny_bind (wpAny_pure ?_)
  refine wpAny_bind ?_
  refine wpAny_bind ?_
  first | refine wpAny_bind (wpAny_typeNameOfWhole_keyiter hit.typeIs (wpAny_pure ?_)) | refine wpAny_bind (wpAny_typeNameOf_keyiter hit.typeIs (wpAny_pure ?_))
  refine wpAny_bind (wpAny_fieldsOf ho hd ?_)
  have hown : Builtin.Dict_items.ownsTuple "dict_keyiterator" = false := by decide
  simp only [hown, Bool.false_eq_true, if_false]
  show wpAny _ _ (if (Value.ref d == Value.none) = true then _ else _) _ _ s
  rw [if_neg (show ¬ ((Value.ref d == Value.none) = true) from Bool.false_ne_true)]
  refine wpAny_bind (wpAny_pure ?_)
  refine wpAny_bind (wpAny_dictEntries hod hdd ?_)
  rw [if_neg (by rw [hsz]; simp)]
  refine wpAny_bind (wpAny_pure ?_)
  refine wpAny_bind (wpAny_dictEpoch hod hdd ?_)
  rw [if_neg (by simp)]
  refine wpAny_pure ?_
  obtain ⟨hlt', hen⟩ := Array.getElem?_eq_some_iff.mp hx
  simp only [show ¬ ((i : Int) < 0) from by omega, if_false, Int.toNat_natCast, Array.getElem?_eq_getElem hlt']
  refine wpAny_bind ?_
  first | refine wpAny_bind (wpAny_typeNameOfWhole_keyiter hit.typeIs (wpAny_pure ?_)) | refine wpAny_bind (wpAny_typeNameOf_keyiter hit.typeIs (wpAny_pure ?_))
  refine wpAny_bind (wpAny_isOneOf_keyiter hit.typeIs ?_)
  show wpAny _ _ (setField (.ref it) 1 (rawInt ((i : Int) + 1)) >>= _) _ _ s
  refine wpAny_bind (wpAny_setField ho hd (by simp) ?_)
  have hit' : (s.heap.update it (Obj.mapFields (·.setIfInBounds 1 (rawInt ((i : Int) + 1))))).IsKeyIter it d (i + 1) n ep :=
    ⟨_, Heap.get?_update_self _ ho (Obj.isFreed_of_fields (Obj.data_mapFields hd _)), (Obj.cls_mapFields ..).trans hc, by rw [Obj.data_mapFields hd]; simp [rawInt]⟩
  refine wpAny_bind (wpAny_holding ?_)
  refine wpAny_bind (wpAny_isOneOf_keyiter (s := { s with heap := s.heap.update it (Obj.mapFields (·.setIfInBounds 1 (rawInt ((i : Int) + 1)))) }) hit'.typeIs ?_)
  show wpAny _ _ (pure es[i].key) _ _ _
  rw [hen]
  exact wpAny_pure (wpAny_pure ⟨_, rfl, wpAny_pure (hQ _ hit' (Heap.SameBut.update ..))⟩)
theorem next_key_end {it d : Addr} {i n ep : Nat} {od : Obj} {es : Array DictEntry} {Q : Option Value → Shared → Prop} (hh : A.handled = none) (hit : s.heap.IsKeyIter it d i n ep) (hod : s.heap.get? d = some od) (hdd : od.data = .dict es ep)
    (hsz : es.size = n) (hge : n ≤ i) (hQ : ∀ h', Heap.ExtBut it s.heap h' → Q none { s with heap := h' }) : wpAny (model prog w) A (pyNext (.ref it)) Q E s := by
  obtain ⟨o, ho, hc, hd⟩ := id hit
  unfold pyNext
  refine wpAny_bind (wpAny_attempt (wpAny_callSpecial?_slot (name := Str.ofString "__next__") hit.typeIs F.slot_dict_keyiterator_next
    (wpAny_call_entry F.slot_dict_keyiterator_next hit.typeIs F.entry_dict_keyiterator_next ?_ (F.args_dict_keyiterator_next_1 _))))
  refine wpAny_bind (wpAny_pure ?_)
  refine wpAny_bind ?_
  refine wpAny_bind ?_
  first | refine wpAny_bind (wpAny_typeNameOfWhole_keyiter hit.typeIs (wpAny_pure ?_)) | refine wpAny_bind (wpAny_typeNameOf_keyiter hit.typeIs (wpAny_pure ?_))
  refine wpAny_bind (wpAny_fieldsOf ho hd ?_)
  have hown : Builtin.Dict_items.ownsTuple "dict_keyiterator" = false := by decide
  simp only [hown, Bool.false_eq_true, if_false]
  show wpAny _ _ (if (Value.ref d == Value.none) = true then _ else _) _ _ s
  rw [if_neg (show ¬ ((Value.ref d == Value.none) = true) from Bool.false_ne_true)]
  refine wpAny_bind (wpAny_pure ?_)
  refine wpAny_bind (wpAny_dictEntries hod hdd ?_)
  rw [if_neg (by rw [hsz]; simp)]
  refine wpAny_bind (wpAny_pure ?_)
  refine wpAny_bind (wpAny_dictEpoch hod hdd ?_)
  rw [if_neg (by simp)]
  refine wpAny_pure ?_
  have hge' : es.size ≤ i := by rw [hsz]; exact hge
  simp only [show ¬ ((i : Int) < 0) from by omega, if_false, Int.toNat_natCast, Array.getElem?_eq_none hge']
  refine wpAny_bind ?_
  first | refine wpAny_bind (wpAny_typeNameOfWhole_keyiter hit.typeIs (wpAny_pure ?_)) | refine wpAny_bind (wpAny_typeNameOf_keyiter hit.typeIs (wpAny_pure ?_))
  show wpAny _ _ (setField (.ref it) 0 .none >>= _) _ _ s
  refine wpAny_bind (wpAny_setField ho hd (by simp) ?_)
  show wpAny _ _ (newExc (.type "StopIteration") [] >>= _) _ _ _
  refine wpAny_bind ?_
  simp only [newExc, newTuple]
  refine wpAny_bind (wpAny_newObj_type ?_ (by size_fits))
  refine wpAny_bind (m := firstArgMember _ _) (wpAny_of_eq (a := Value.none) (by first | rfl | (simp only [firstArgMember]; rfl)) ?_)
  refine wpAny_newObj_type ?_ (by size_fits)
  simp only [raiseNew]
  refine wpAny_bind (wpAny_handled ?_)
  rw [show A.in1.handled = none from hh]
  refine wpAny_bind (wpAny_pure (wpAny_throw ?_))
  refine wpAny_bind (wpAny_isInstance (T := "StopIteration") (b := true) ⟨_, Heap.get?_push_size _ rfl, rfl⟩ isSubtype_stop ?_)
  exact wpAny_pure (hQ _ (((Heap.SameBut.update ..).extBut.push _).push _))
end
/-! ### a locked dict -/
theorem kv_get {κ : Type} {kvs : List (κ × V)} {vs : List (κ × Value)} (h : KV kvs vs) : ∀ {i : Nat} {k : κ} {v : V}, kvs[i]? = some (k, v) → ∃ u, vs[i]? = some (k, u) ∧ RelV v u := by
  unfold KV at h
  induction h with
  | nil => intro i k v e; simp at e
  | @cons a b l₁ l₂ r t ih =>
    intro i k v e
    cases i with
    | zero =>
      simp only [List.getElem?_cons_zero, Option.some.injEq] at e
      subst e
      refine ⟨b.2, ?_, r.2⟩
      simp only [List.getElem?_cons_zero]
      exact congrArg some (Prod.ext r.1.symm rfl)
    | succ j =>
      simp only [List.getElem?_cons_succ] at e ⊢
      exact ih e
theorem paired_get {α β : Type} {G : α → β → Prop} {l₁ : List α} {l₂ : List β} (h : Paired G l₁ l₂) : ∀ {i : Nat} {a : α}, l₁[i]? = some a → ∃ b, l₂[i]? = some b ∧ G a b := by
  induction h with
  | nil => intro i a e; simp at e
  | @cons a b l₁ l₂ r t ih =>
    intro i a' e
    cases i with
    | zero =>
      simp only [List.getElem?_cons_zero, Option.some.injEq] at e
      subst e
      exact ⟨b, rfl, r⟩
    | succ j =>
      simp only [List.getElem?_cons_succ] at e ⊢
      exact ih e
theorem relV_key {k : Key} {u : Value} (h : keyIs k u = true) : RelV (kV k) u := by
  rcases keyIs_shape h with ⟨i, t, rfl, rfl⟩ | ⟨x, t, rfl, rfl⟩
  · exact ⟨t, rfl⟩
  · exact ⟨t, rfl⟩
section
variable {X : Cx} {pins : List (Addr × Obj)} {σ : St} {H : Hp} {s : Shared} {d : Addr} {o : Obj}
theorem Inv.frzK {kvs : List (Key × V)} (I : Inv X pins σ H s) (h : H d = some (.frz o (.dK kvs))) :
    (d == sysModules) = false ∧ s.heap.get? d = some o ∧ o.ExactDict ∧ ∃ (es : Array DictEntry) (ep : Nat) (vs : List (Key × Value)), o.data = .dict es ep ∧ es.size = kvs.length ∧ KV kvs vs ∧ s.heap.DictAt (mixKind X.prog X.w) d vs ep := by
  obtain ⟨hd, z, hs, vs, kv, o', es, ep, ho, hx, hdt, r⟩ := I.hok d _ h
  rw [hd] at ho
  cases ho
  refine ⟨hs, hd, hx, es, ep, vs, hdt, ?_, kv, o, es, hd, hx, hdt, r⟩
  have l1 := r.2.1.length
  have l2 : kvs.length = vs.length := Paired.length kv
  rw [Array.length_toList] at l1
  omega
/-- the same for tuple keys -/
theorem Inv.frzT {kvs : List (List Key × V)} (I : Inv X pins σ H s) (h : H d = some (.frz o (.dT kvs))) :
    (d == sysModules) = false ∧ s.heap.get? d = some o ∧ o.ExactDict ∧ ∃ (es : Array DictEntry) (ep : Nat), o.data = .dict es ep ∧ es.size = kvs.length ∧
      ∀ (i : Nat) (k : List Key) (v : V), kvs[i]? = some (k, v) → ∃ (en : DictEntry) (q : Addr), es[i]? = some en ∧ en.key = .ref q ∧ H q = some (.tup (k.map kV)) := by
  obtain ⟨hd, z, hs, xs, pr, o', es, ep, ho, hx, hdt, he, _⟩ := I.hok d _ h
  rw [hd] at ho
  cases ho
  refine ⟨hs, hd, hx, es, ep, hdt, ?_, fun i k v e => ?_⟩
  · have l1 : es.size = xs.length := size_of_entries he
    have l2 : kvs.length = xs.length := Paired.length pr
    omega
  · obtain ⟨b, hb, e1, e2, _⟩ := paired_get pr e
    have q := entry_at he i
    rw [hb] at q
    exact ⟨_, b.2.1, q, rfl, e2⟩
end
/-- the keys of the locked dict at d, in their order -/
def Itk (d : Addr) (o : Obj) (kvs : List (Key × V)) : It :=
  ⟨fun i H => H d = some (.frz o (.dK kvs)) ∧ i < kvs.length, fun i H x H' => H' = H ∧ ∃ k v, kvs[i]? = some (k, v) ∧ x = kV k, fun i H => H d = some (.frz o (.dK kvs)) ∧ kvs.length ≤ i⟩
/-- .. of tuple keys: the key's own tuple -/
def Itkt (d : Addr) (o : Obj) (kvs : List (List Key × V)) : It :=
  ⟨fun i H => H d = some (.frz o (.dT kvs)) ∧ i < kvs.length, fun i H x H' => H' = H ∧ ∃ (k : List Key) (v : V) (q : Addr), kvs[i]? = some (k, v) ∧ x = .ref q ∧ H q = some (.tup (k.map kV)), fun i H => H d = some (.frz o (.dT kvs)) ∧ kvs.length ≤ i⟩
theorem dict_ep {o : Obj} {es es' : Array DictEntry} {ep ep' : Nat} (h : o.data = .dict es ep) (h' : o.data = .dict es' ep') : es' = es ∧ ep' = ep := by
  rw [h] at h'
  cases h'
  exact ⟨rfl, rfl⟩
section
variable {P : Program} {w : World} {K : PySem.W.Frag} {tg : Expr} {d : Addr} {o : Obj} {es : Array DictEntry} {ep : Nat}
theorem turn_keys {kvs : List (Key × V)} (it : Addr) (hod : o.data = .dict es ep) : Turn P w K tg (Itk d o kvs) [it] it (fun i h => h.IsKeyIter it d i kvs.length ep) where
  mem := by simp
  obj := fun i h st b hb => by
    have e : b = it := by simpa using hb
    subst e
    obtain ⟨oi, e, c, dd⟩ := st
    exact ⟨oi, e, fun v z => by rw [dd] at z; cases z⟩
  keep := fun i h h' st k => st.at fun oi e => k it (by simp) oi e
  item := by
    intro X hP hw hK hc i pins s σ H E I hf st hg
    subst hP hw hK
    obtain ⟨hd, hi⟩ := hg
    obtain ⟨f0, f1, f2, f3, f4, f5⟩ := hf it (by simp)
    obtain ⟨hs, hgd, hx, es', ep', vs, hdt, hsz, kv, hm⟩ := I.frzK hd
    obtain ⟨rfl, rfl⟩ := dict_ep hod hdt
    obtain ⟨⟨k, v⟩, hkv⟩ : ∃ p, kvs[i]? = some p := ⟨kvs[i], List.getElem?_eq_getElem hi⟩
    obtain ⟨u, hu, ru⟩ := kv_get kv hkv
    have hl : kvs.length = vs.length := Paired.length kv
    rw [hl] at st
    refine wpAny_pyNext_dict_item st hm hu fun key h' hkey st' sb => ?_
    have I1 : Inv X pins σ H { s with heap := h' } := I.turned (t' := s.toks) (fun b ob hb e => (sb.2 b hb).trans e) f0 f1 f3 f4 f5
    obtain ⟨oi, e, c, dd⟩ := id st'
    refine ⟨key, rfl, go_of (s := { s with heap := h' }) e c dd (by decide) ⟨kV k, H, I1, relV_key (show keyIs k key = true from hkey), ⟨rfl, k, v, hkv, rfl⟩, ?_, fun b hb => (hf b hb).1⟩⟩
    show h'.IsKeyIter it d (i + 1) kvs.length _
    rw [hl]
    exact st'
  done := by
    intro X hP hw hK hc i pins s σ H E I hf st hg
    subst hP hw hK
    obtain ⟨hd, hi⟩ := hg
    obtain ⟨f0, f1, f2, f3, f4, f5⟩ := hf it (by simp)
    obtain ⟨hs, hgd, hx, es', ep', vs, hdt, hsz, kv, hm⟩ := I.frzK hd
    obtain ⟨rfl, rfl⟩ := dict_ep hod hdt
    exact next_key_end (I.ok.hd hc) st hgd hdt hsz hi fun h' eb => ⟨rfl, I.turned (t' := s.toks) (fun b ob hb e => eb b ob hb e) f0 f1 f3 f4 f5⟩
  self := fun A i s Q E st h => wpAny_pyIter_keyiter st h
theorem turn_keysT {kvs : List (List Key × V)} (it : Addr) (hod : o.data = .dict es ep) : Turn P w K tg (Itkt d o kvs) [it] it (fun i h => h.IsKeyIter it d i kvs.length ep) where
  mem := by simp
  obj := fun i h st b hb => by
    have e : b = it := by simpa using hb
    subst e
    obtain ⟨oi, e, c, dd⟩ := st
    exact ⟨oi, e, fun v z => by rw [dd] at z; cases z⟩
  keep := fun i h h' st k => st.at fun oi e => k it (by simp) oi e
  item := by
    intro X hP hw hK hc i pins s σ H E I hf st hg
    subst hP hw hK
    obtain ⟨hd, hi⟩ := hg
    obtain ⟨f0, f1, f2, f3, f4, f5⟩ := hf it (by simp)
    obtain ⟨hs, hgd, hx, es', ep', hdt, hsz, ent⟩ := I.frzT hd
    obtain ⟨rfl, rfl⟩ := dict_ep hod hdt
    obtain ⟨⟨k, v⟩, hkv⟩ : ∃ p, kvs[i]? = some p := ⟨kvs[i], List.getElem?_eq_getElem hi⟩
    obtain ⟨en, q, hen, hkey, hq⟩ := ent i k v hkv
    refine next_key_item st hgd hdt hsz hen fun h' st' sb => ?_
    have I1 : Inv X pins σ H { s with heap := h' } := I.turned (t' := s.toks) (fun b ob hb e => (sb.2 b hb).trans e) f0 f1 f3 f4 f5
    obtain ⟨oi, e, c, dd⟩ := id st'
    exact ⟨en.key, rfl, go_of (s := { s with heap := h' }) e c dd (by decide) ⟨.ref q, H, I1, hkey, ⟨rfl, k, v, q, hkv, rfl, hq⟩, st', fun b hb => (hf b hb).1⟩⟩
  done := by
    intro X hP hw hK hc i pins s σ H E I hf st hg
    subst hP hw hK
    obtain ⟨hd, hi⟩ := hg
    obtain ⟨f0, f1, f2, f3, f4, f5⟩ := hf it (by simp)
    obtain ⟨hs, hgd, hx, es', ep', hdt, hsz, ent⟩ := I.frzT hd
    obtain ⟨rfl, rfl⟩ := dict_ep hod hdt
    exact next_key_end (I.ok.hd hc) st hgd hdt hsz hi fun h' eb => ⟨rfl, I.turned (t' := s.toks) (fun b ob hb e => eb b ob hb e) f0 f1 f3 f4 f5⟩
  self := fun A i s Q E st h => by
    refine wpAny_pyIter_slot st.typeIs F.slot_dict_keyiterator_iter (wpAny_call_entry F.slot_dict_keyiterator_iter st.typeIs F.entry_dict_keyiterator_iter ?_ (F.args_dict_keyiterator_iter_1 _))
    show wpAny _ _ (ret (.ref it)) _ _ s
    exact wpAny_pure ⟨_, rfl, "dict_keyiterator", _, st.typeIs, F.slot_dict_keyiterator_next.lookup, h⟩
end
/-! ### for k in d, d.keys(), d.values(), d.items() -/
/-- the dict is locked (tLock, or by the caller) -/
def iKeys (td : TE) : TI := fun σ H R => td σ H fun x H1 => ∃ d o, x = .ref d ∧ ((∃ kvs, H1 d = some (.frz o (.dK kvs)) ∧ R (Itk d o kvs) H1) ∨ ∃ kvs, H1 d = some (.frz o (.dT kvs)) ∧ R (Itkt d o kvs) H1)
section
variable {X : Cx} {tg e : Expr} {td : TE} {apos cpos : Pos}
theorem pi_keys (he : PE X e td) : PI X tg e (iKeys td) := by
  intro pins s σ H R I h
  refine thn (he pins s σ H _ I h) fun u s1 ⟨x, H1, I1, rx, d, o, ex, q⟩ => ?_
  subst ex
  obtain rfl : u = Value.ref d := rx
  rcases q with ⟨kvs, hd, q⟩ | ⟨kvs, hd, q⟩
  · obtain ⟨hs, hgd, hx, es, ep, vs, hdt, hsz, kv, hm⟩ := I1.frzK hd
    refine iter_keys hs hgd hx hdt (pi_one (tk := s1.toks) I1 _ (turn_keys _ hdt) ⟨_, Heap.get?_push_size _ rfl, rfl, ?_⟩ q)
    rw [hsz] <;> rfl
  · obtain ⟨hs, hgd, hx, es, ep, hdt, hsz, ent⟩ := I1.frzT hd
    refine iter_keys hs hgd hx hdt (pi_one (tk := s1.toks) I1 _ (turn_keysT _ hdt) ⟨_, Heap.get?_push_size _ rfl, rfl, ?_⟩ q)
    rw [hsz] <;> rfl
end
/-! ### enumerate(list) -/
/-! ### zip(list, list) -/
end L2
section 
namespace Bits
open PySem PyProof.Rows
end Bits
end 
section 
namespace TL
open PySem PySem.Builtin PySem.Builtin.Str PySem.StrLaws
/-! ### the list functions -/
/-! ### the model's split and partition are these -/
/-! ### computing spl and par -/
/-! ### digits -/
/-! ### words: x.split() -/
end TL
end 
namespace L2
open PySem PySem.Spec PyProof.Rows
section
variable {X : Cx} {pins : List (Addr × Obj)} {σ : St} {H : Hp} {s : Shared} {Q : VK}
end
section
variable {X : Cx}
/-! ### of a text alone -/
/-! ### of a text and a text -/
end
section
variable {X : Cx} {o e : Expr} {to te : TE}
end
end L2
namespace L2
open PySem PySem.Spec PyProof.Rows
section
variable {X : Cx}
end
/-! ### slices of a text -/
end L2
namespace Att
open PySem PySem.W PySem.Calls PyProof.Rows
/-! ### the script -/
/-! ### the attachment: holds_open's last premise (the goal 'hc' behind k_head) from a wpAny of the law's body -/
/-! ### rules over ANY heap (no ledger) from facts about the written part K: the library's own take a ledger (News) for what they write -/
section
variable {prog : Program} {w : World} {A : Around} {E : Value → Shared → Prop} {s : Shared} {K : Frag}
/-! the whole heap as the ledger: makes every rule that writes through a ledger a rule over any heap -/
end
end Att
namespace L2
open PySem PySem.Spec PyProof.Rows
end L2
namespace L2
open PySem PySem.Spec PyProof.Rows
abbrev KOf {K : PySem.W.Frag} {h : Heap} (_ : K.In h) : PySem.W.Frag := K
end L2
/- THE LAST THEOREM (shape; LID, My.* are yours):
   My.Adr: a structure of the addresses that your layer names (classes, functions); My.Txt K t: a structure (Prop) of the equations over K;
   My.txt_mk : {K} {implicit addresses ..} (e1 : nsIn K mainGlobals "law" = some (some (.ref f))) (e2 : K.lookup f = some ⟨oc, od, .func (fnOf "law" "law" params body scope dV kV doc pm an cdv ct), sl⟩) (e3 : codeIn K cdv "law" = true) .. : ∃ t, My.Txt K t
set_option maxRecDepth 100000 in
set_option maxHeartbeats 0 in
theorem PySem.Challenge.cw_LID_holds : PySem.Challenge.rw_LID.Holds := by
  w_on; o_law; k_head; (case hw => w_witness2)
  k_fill
  refine L2.walk_of (l := PySem.Challenge.rw_LID) (n := 63) (k := 40) (x := "script") (CX := fun w => ..) (sp := fun _ => My.sp_law) rfl (by decide) rfl ⟨rfl, by decide, by decide⟩ (fun w h Y => PySem.W.kIn_of Y) ?F ?S ?C
  case F =>
    intro w mg fa h KX G hmg
    have T : ∃ t, My.Txt (L2.KOf KX) t := by
      dsimp only [L2.KOf]                          -- K must stand as «<heap const> w.params» for k_is
      refine' My.txt_mk ?e1 ?e2 ?e3 ..
      (case e1 => PySem.W.k_is)                    -- in the order: a name -> its address -> its object -> its parts
      (case e2 => PySem.W.k_is)
      ..
    obtain ⟨t, T⟩ := T
    have e0 := hmg.symm.trans (PySem.W.mg_of KX G T.law)
    cases e0                                       -- fa is the law's own address
    exact ⟨_, fun s u => .of_eq rfl, fun base kb nb => My.law_fn T kb nb⟩     -- if «.of_eq rfl» comes too early: refine' ⟨_, ?b, fun base kb nb => My.law_fn T kb nb⟩; exact fun s u => .of_eq rfl
  case S => exact fun w H a ns hl hO hS => ..
  case C => exact ..
(the tactic k_is has no namespace: write k_is) -/
/-! SHORT WORDS over the layer: a def of the text, its body, what a loop and a test want. -/
namespace L2
open PySem PySem.Spec PyProof.Rows
/-! ### the text by places -/
/-- the j-th statement of a class's body -/
def inClass (s : Stmt) (j : Nat) : Stmt := match s with
  | .ClassDef _ _ _ body _ _ _ _ _ _ _ => body.getD j (.Pass ⟨0, 0, 0, 0⟩)
  | _ => .Pass ⟨0, 0, 0, 0⟩
def defArgs (s : Stmt) : Arguments := match s with
  | .FunctionDef _ a _ _ _ _ _ _ _ _ => a
  | _ => { posonlyargs := [], args := [], vararg := none, kwonlyargs := [], kw_defaults := [], kwarg := none, defaults := [] }
def defBody (s : Stmt) : List Stmt := match s with
  | .FunctionDef _ _ b _ _ _ _ _ _ _ => b
  | _ => []
def defScope (s : Stmt) : Scope := match s with
  | .FunctionDef _ _ _ _ _ _ sc _ _ _ => sc
  | _ => { kind := .function, names := [], isGenerator := false, isCoroutine := false }
/-! ### no exception leaves a def -/
abbrev CX0 : CXT := fun _ _ _ _ _ _ => False
abbrev E0 : XK := fun _ _ _ => False
theorem pass0 {X : Cx} : Passes CX0 X E0 := fun _ _ _ _ _ _ _ h => h.elim
/-! ### a def (or method) of the text as it stands behind the top -/
structure Fun (K : PySem.W.Frag) (x qual : Str) (st : Stmt) (f : Addr) (fd : FuncData) : Prop where
  ex : ∃ (oc : Value) (od : Option Addr) (kV doc pm : Value) (an : Option Addr) (cdv ct : Value) (osl : Array (Option Value)),
    fd = PySem.W.fnOf x qual (defArgs st) (defBody st) (defScope st) .none kV doc pm an cdv ct ∧ K.lookup f = some ⟨oc, od, .func fd, osl⟩ ∧ PySem.W.codeIn K cdv qual = true
  kp : PySem.W.keepIn K (.ref f) = true
section
variable {P : Program} {w : World} {K : PySem.W.Frag} {mg : Str → Option Value} {base : Heap}
/-- THE RULE for a def: its body as a term of rules, and the reading of that term -/
theorem Fun.ok {x qual : Str} {st : Stmt} {f : Addr} {fd : FuncData} {N ps : List Str} {k : Nat} {sp : Sp} (F : Fun K x qual st f fd) (S : FnScope N ps (defScope st)) (len : ∀ vs H Q E, sp vs H Q E → vs.length = ps.length)
    (hbody : ∀ (cdv : Value) (A : Around) (outer : List Env) (s : Shared) (H : Hp) (vs : List V) (Q : VK) (E : XK), Room k (A.deeper (envOfC qual (defScope st) s.heap.objs.size f cdv)) → sp vs H Q E →
      ∃ t, PSs (cxOf CX0 P w K mg base N qual (defScope st) f cdv A outer s H E).nox (defBody st) t ∧ t { nx := fun _ H' => Q .non H', rt := Q } (start N vs) H) : FnOk P w K mg base CX0 (k + 1) f fd ps sp := by
  obtain ⟨oc, od, kV, doc, pm, an, cdv, ct, osl, rfl, lk, hcd⟩ := F.ex
  refine fn_of lk hcd S len fun A outer s H vs Q E hr hsp => ?_
  obtain ⟨t, h, q⟩ := hbody cdv A outer s H vs Q E hr hsp
  exact ⟨t, h.nox, q⟩
/-- how its arguments bind (no defaults): h is «fun _ _ _ _ _ _ us hl => match us, hl with | [_, _], _ => rfl», one _ a parameter -/
theorem Fun.binds {x qual : Str} {st : Stmt} {f : Addr} {fd : FuncData} {ps : List Str} (F : Fun K x qual st f fd)
    (h : ∀ (kV doc pm : Value) (an : Option Addr) (cdv ct : Value) (us : List Value), us.length = ps.length → bindArgs (PySem.W.fnOf x qual (defArgs st) (defBody st) (defScope st) .none kV doc pm an cdv ct) ⟨us, []⟩ = pure (ps.zip us)) : Binds K fd ps [] := by
  obtain ⟨oc, od, kV, doc, pm, an, cdv, ct, osl, rfl, lk, hcd⟩ := F.ex
  exact .all (h kV doc pm an cdv ct)
theorem fun_mk {x qual : Str} {st : Stmt} {f : Addr} {oc : Value} {od an : Option Addr} {osl : Array (Option Value)} {kV doc pm cdv ct : Value} (l : K.lookup f = some ⟨oc, od, .func (PySem.W.fnOf x qual (defArgs st) (defBody st) (defScope st) .none kV doc pm an cdv ct), osl⟩)
    (c : PySem.W.codeIn K cdv qual = true) (k : PySem.W.keepIn K (.ref f) = true) : Fun K x qual st f (PySem.W.fnOf x qual (defArgs st) (defBody st) (defScope st) .none kV doc pm an cdv ct) := ⟨⟨oc, od, kV, doc, pm, an, cdv, ct, osl, rfl, l, c⟩, k⟩
end
theorem hu_of {A : Around} {k : Nat} (hr : Room k A) : A.units + 1 < cLine := Nat.lt_of_le_of_lt (Nat.add_le_add_left (by decide : 1 ≤ 64) _) hr.units
theorem small1000 {n : Nat} (h : n ≤ 1000) : n < sizeLine := Nat.lt_of_le_of_lt h (by decide)
/-! ### expressions in short: the name that stands in the i-th slot -/
section
variable {X : Cx}
theorem pv (i : Nat) {x : Str} {pos : Pos} (hN : X.N[i]? = some x := by rfl) (hv : Vis X.env.scope x := by first | exact Or.inl rfl | exact Or.inr (Or.inl rfl) | exact Or.inr (Or.inr rfl)) (hd : (x == ("__debug__" : Str)) = false := by decide)
    (hcd : (x == ("__classdict__" : Str)) = false := by decide) : PE X (.Name x pos) (tVar i) := pe_var hN hv hd hcd
end
/-! ### tests -/
theorem iteF {A B : Prop} (h : B) : if false = true then A else B := by
  rw [if_neg Bool.false_ne_true]
  exact h
theorem iteT {A B : Prop} (h : A) : if true = true then A else B := by
  rw [if_pos rfl]
  exact h
theorem ite2 {c A B : Prop} [Decidable c] (h1 : c → A) (h2 : ¬ c → B) : if c then A else B := by
  by_cases h : c
  · rw [if_pos h]
    exact h1 h
  · rw [if_neg h]
    exact h2 h
/-! ### heaps -/
/-- all that was tracked is as it was -/
def Same (H H' : Hp) : Prop := ∀ b o, H b = some o → H' b = some o
theorem Same.refl (H : Hp) : Same H H := fun _ _ h => h
theorem Same.trans {H H1 H2 : Hp} (a : Same H H1) (b : Same H1 H2) : Same H H2 := fun c o h => b c o (a c o h)
theorem Same.free {H H' : Hp} (e : Same H H') {l : Addr} (h : H' l = Option.none) : H l = Option.none := by
  cases q : H l with
  | none => rfl
  | some o =>
    rw [e l o q] at h
    cases h
theorem Same.seq {K : PySem.W.Frag} {H H' : Hp} {a : Addr} {xs : List V} (e : Same H H') (h : SqL K H a xs) : SqL K H' a xs := by
  rcases h with (h | ⟨o, h⟩) | h
  · exact .inl (.inl (e _ _ h))
  · exact .inl (.inr ⟨o, e _ _ h⟩)
  · exact .inr h
/-! ### a dict's pairs: keys that differ -/
section
variable {κ : Type} [DecidableEq κ]
end
/-! ### lists -/
theorem at_of {xs : List V} {z : Int} {j : Nat} {v : V} (e : z = (j : Int)) (h : xs[j]? = some v) : atI xs z = some v := by
  rw [e]
  exact atI_nat h
/-- a new instance and its __init__ leave all that was tracked as it was -/
theorem Same.made {H H1 : Hp} {x dx C : Addr} (nx : H x = Option.none) (nd : H dx = Option.none) (k : ∀ b o, (upd (upd H dx (.own x)) x (.ins C dx [])) b = some o → b ≠ x → H1 b = some o) : Same H H1 := fun b o e =>
  k b o (by rw [upd_ne (ne_of_none e nx), upd_ne (ne_of_none e nd)]; exact e) (ne_of_none e nx)
end L2
section
set_option Elab.async false
set_option linter.all false
set_option maxRecDepth 100000
set_option maxHeartbeats 2000000
namespace L2
open PySem PySem.Spec PyProof.Rows
open PySem.W (WData Codec OpenSpec Well WellAll ReadsW ReadsAllW)
/-! ### an answer as data -/
mutual
/-- x stands for the datum d, lists and tuples all the way -/
inductive Dw (K : PySem.W.Frag) (H : Hp) : V → WData → Prop
  | non : Dw K H .non .none
  | bl (b : Bool) : Dw K H (.bl b) (.bool b)
  | int (i : Int) : Dw K H (.int i) (.int i)
  | str (x : Str) : Dw K H (.str x) (.str x)
  | byt (b : Array UInt8) : Dw K H (.byt b) (.bytes b.toList)
  | lst {a : Addr} {xs : List V} {ds : List WData} : SqL K H a xs → DwAll K H xs ds → Dw K H (.ref a) (.list ds)
  | tup {a : Addr} {xs : List V} {ds : List WData} : SqT K H a xs → DwAll K H xs ds → Dw K H (.ref a) (.tuple ds)
inductive DwAll (K : PySem.W.Frag) (H : Hp) : List V → List WData → Prop
  | nil : DwAll K H [] []
  | cons {v : V} {vs : List V} {d : WData} {ds : List WData} : Dw K H v d → DwAll K H vs ds → DwAll K H (v :: vs) (d :: ds)
end
theorem dw_ints {K : PySem.W.Frag} {H : Hp} : ∀ ns : List Int, DwAll K H (ns.map V.int) (ns.map WData.int)
  | [] => .nil
  | n :: r => .cons (.int n) (dw_ints r)
theorem ints_dw {K : PySem.W.Frag} {H : Hp} : ∀ (ns : List Int) (xs : List V), DwAll K H xs (ns.map WData.int) → xs = ns.map V.int
  | [], xs, h => by
    cases h
    rfl
  | n :: r, xs, h => by
    cases h with
    | cons h1 h2 =>
      cases h1
      rw [ints_dw r _ h2] <;> rfl
section
variable {P : Program} {w : World} {K : PySem.W.Frag} {H : Hp} {h : Heap} {R : PySem.W.WRecords} {cl : Str → Option Addr}
theorem sqL_at {a : Addr} {xs : List V} (hok : HOk P w H h) (KX : K.In h) (q : SqL K H a xs) : ∃ (its : List Value) (o : Obj) (n : Nat), Vals xs its ∧ h.get? a = some o ∧ o.cls = .type "list" ∧ o.data = .seq its.toArray n := by
  rcases q with q | ⟨o, its, n, e, hc, _, hd, _, hv⟩
  · obtain ⟨_, its, n, hv, e⟩ := (show ObjOk P w H h a (.lst xs) from q.ok hok)
    exact ⟨its, _, n, hv, e, rfl, rfl⟩
  · exact ⟨its.toList, o, n, hv, KX _ _ e, hc, by simp [hd]⟩
theorem sqT_at {a : Addr} {xs : List V} (hok : HOk P w H h) (KX : K.In h) (q : SqT K H a xs) : ∃ (its : List Value) (o : Obj) (n : Nat), Vals xs its ∧ h.get? a = some o ∧ o.cls = .type "tuple" ∧ o.data = .seq its.toArray n := by
  rcases q with q | ⟨o, its, n, e, hc, hd, _, hv⟩
  · obtain ⟨_, its, hv, o, e, hc, n, hd⟩ := (show ObjOk P w H h a (.tup xs) from q.ok hok)
    exact ⟨its, o, n, hv, e, hc, hd⟩
  · exact ⟨its.toList, o, n, hv, KX _ _ e, hc, by simp [hd]⟩
mutual
theorem Dw.reads (hok : HOk P w H h) (KX : K.In h) : ∀ (d : WData) (v : V) (u : Value), Dw K H v d → RelV v u → ∃ as, ReadsW R cl h u d as
  | .none, _, _, x, r => by
    cases x
    cases r
    exact ⟨_, ReadsW.none⟩
  | .bool b, _, _, x, r => by
    cases x
    cases r
    exact ⟨_, ReadsW.bool b⟩
  | .int i, _, _, x, r => by
    cases x
    obtain ⟨t, rfl⟩ := r
    exact ⟨_, ReadsW.int i t⟩
  | .str s, _, _, x, r => by
    cases x
    obtain ⟨t, rfl⟩ := r
    exact ⟨_, ReadsW.str s t⟩
  | .bytes b, _, _, x, r => by
    cases x
    obtain ⟨t, rfl⟩ := r
    exact ⟨_, ReadsW.bytes _ t⟩
  | .list ds, _, _, x, r => by
    cases x with
    | lst hs ha =>
      cases r
      obtain ⟨its, o, n, rv, ho, hc, hd⟩ := sqL_at hok KX hs
      obtain ⟨as, hr⟩ := Dw.readsAll hok KX ds _ its ha rv
      exact ⟨_, ReadsW.list ho hc hd hr⟩
  | .tuple ds, _, _, x, r => by
    cases x with
    | tup hs ha =>
      cases r
      obtain ⟨its, o, n, rv, ho, hc, hd⟩ := sqT_at hok KX hs
      obtain ⟨as, hr⟩ := Dw.readsAll hok KX ds _ its ha rv
      exact ⟨_, ReadsW.tuple ho hc hd hr⟩
  | .float _, _, _, x, _ => by cases x
  | .dict _, _, _, x, _ => by cases x
  | .bytearray _, _, _, x, _ => by cases x
  | .set _, _, _, x, _ => by cases x
  | .frozenset _, _, _, x, _ => by cases x
  | .obj _ _, _, _, x, _ => by cases x
theorem Dw.readsAll (hok : HOk P w H h) (KX : K.In h) : ∀ (ds : List WData) (vs : List V) (us : List Value), DwAll K H vs ds → Vals vs us → ∃ as, ReadsAllW R cl h us ds as
  | [], _, _, x, r => by
    cases x
    cases r
    exact ⟨_, ReadsAllW.nil⟩
  | d :: ds, _, _, x, r => by
    cases x with
    | cons h1 h2 =>
      cases r with
      | cons r1 r2 =>
        obtain ⟨as, q1⟩ := Dw.reads hok KX d _ _ h1 r1
        obtain ⟨bs, q2⟩ := Dw.readsAll hok KX ds _ _ h2 r2
        exact ⟨_, ReadsAllW.cons q1 q2⟩
end
end
/-! ### the arguments -/
mutual
/-- data that a codec tells -/
def plW : WData → Bool
  | .none => true
  | .bool _ => true
  | .int _ => true
  | .str _ => true
  | .bytes _ => true
  | .list xs => plWs xs
  | .tuple xs => plWs xs
  | _ => false
def plWs : List WData → Bool
  | [] => true
  | x :: r => plW x && plWs r
end
theorem plWs_map {α : Type} {f : α → WData} (h : ∀ a, plW (f a) = true) : ∀ l : List α, plWs (l.map f) = true
  | [] => rfl
  | x :: r => by
    show (plW (f x) && plWs (r.map f)) = true
    rw [h x, plWs_map h r] <;> rfl
theorem pl_enc : ∀ (c : Codec) (a : c.denote), plW (c.enc a) = true
  | .unit, _ => rfl
  | .bool, _ => rfl
  | .int _ _, _ => rfl
  | .nat _ _, _ => rfl
  | .u8, _ => rfl
  | .bytes _ _, _ => rfl
  | .text _ _ _ _, _ => rfl
  | .list _ _ c, a => plWs_map (fun x => pl_enc c x) a
  | .pair c d, a => by
    show (plW (c.enc a.1) && (plW (d.enc a.2) && true)) = true
    rw [pl_enc c a.1, pl_enc d a.2] <;> rfl
  | .triple c d e, a => by
    show (plW (c.enc a.1) && (plW (d.enc a.2.1) && (plW (e.enc a.2.2) && true))) = true
    rw [pl_enc c a.1, pl_enc d a.2.1, pl_enc e a.2.2] <;> rfl
  | .option c, none => rfl
  | .option c, some x => pl_enc c x
theorem pl_encAll : ∀ (cs : List Codec) (a : Codec.denoteAll cs), plWs (Codec.encAll cs a) = true
  | [], _ => rfl
  | c :: cs, a => by
    show (plW (c.enc a.1) && plWs (Codec.encAll cs a.2)) = true
    rw [pl_enc c a.1, pl_encAll cs a.2] <;> rfl
theorem weight_mem : ∀ {xs : List WData} {d : WData}, d ∈ xs → d.weight ≤ WData.weightAll xs
  | [], d, h => absurd h (by simp)
  | x :: r, d, h => by
    show d.weight ≤ x.weight + 1 + WData.weightAll r
    rcases List.mem_cons.mp h with e | m
    · rw [e]
      omega
    · have z := weight_mem m
      omega
def toV : Value → V
  | .none => .non
  | .bool b => .bl b
  | .int i _ => .int i
  | .str x _ => .str x
  | .bytes b _ => .byt b
  | .ref a => .ref a
  | _ => .non
/-- a value of the arguments, its objects among A -/
def OkU (A : List Addr) : Value → Prop
  | .none => True
  | .bool _ => True
  | .int _ _ => True
  | .str _ _ => True
  | .bytes _ _ => True
  | .ref a => a ∈ A
  | _ => False
theorem OkU.mono {A B : List Addr} (h : ∀ a ∈ A, a ∈ B) : ∀ {u : Value}, OkU A u → OkU B u := fun {u} x => by
  cases u with
  | ref a => exact h a x
  | none => trivial
  | bool b => trivial
  | int i t => trivial
  | str s t => trivial
  | bytes b t => trivial
  | _ => exact False.elim x
theorem relV_toV {A : List Addr} {u : Value} (x : OkU A u) : RelV (toV u) u := by
  cases u with
  | ref a => rfl
  | none => rfl
  | bool b => rfl
  | int i t => exact ⟨t, rfl⟩
  | str s t => exact ⟨t, rfl⟩
  | bytes b t => exact ⟨t, rfl⟩
  | _ => exact False.elim x
theorem vals_toV {A : List Addr} : ∀ {vs : List Value}, (∀ u ∈ vs, OkU A u) → Vals (vs.map toV) vs
  | [], _ => .nil
  | u :: r, h => .cons (relV_toV (h u (List.mem_cons_self ..))) (vals_toV fun x hx => h x (List.mem_cons_of_mem _ hx))
/-- an object of the arguments -/
def ArgOb (h : Heap) (A : List Addr) (a : Addr) : Prop := ∃ vs : List Value, vs.length ≤ sizeLine ∧ (∀ u ∈ vs, OkU A u) ∧
  (h.get? a = some { cls := .type "list", data := .seq vs.toArray } ∨ h.get? a = some { cls := .type "tuple", data := .seq vs.toArray })
theorem ArgOb.mono {h : Heap} {A B : List Addr} {a : Addr} (k : ∀ a ∈ A, a ∈ B) (x : ArgOb h A a) : ArgOb h B a := by
  obtain ⟨vs, h1, h2, h3⟩ := x
  exact ⟨vs, h1, fun u hu => (h2 u hu).mono k, h3⟩
theorem wellAll_len {P : Params} {h : Heap} : ∀ {vs : List Value} {ds : List WData}, WellAll P h vs ds → vs.length = ds.length
  | _, _, .nil => rfl
  | _, _, .cons _ b => by
    show _ + 1 = _ + 1
    rw [wellAll_len b]
theorem well_list {P : Params} {h : Heap} {v : Value} {ds : List WData} (x : Well P h v (.list ds)) : ∃ (a : Addr) (vs : List Value), v = .ref a ∧ h.get? a = some { cls := .type "list", data := .seq vs.toArray } ∧ WellAll P h vs ds := by
  cases x with
  | list ho hall => exact ⟨_, _, rfl, ho, hall⟩
theorem well_tuple {P : Params} {h : Heap} {v : Value} {ds : List WData} (x : Well P h v (.tuple ds)) : ∃ (a : Addr) (vs : List Value), v = .ref a ∧ h.get? a = some { cls := .type "tuple", data := .seq vs.toArray } ∧ WellAll P h vs ds := by
  cases x with
  | tuple ho hall => exact ⟨_, _, rfl, ho, hall⟩
theorem well_cons {P : Params} {h : Heap} {us : List Value} {d : WData} {ds : List WData} (x : WellAll P h us (d :: ds)) : ∃ (v : Value) (vs : List Value), us = v :: vs ∧ Well P h v d ∧ WellAll P h vs ds := by
  cases x with
  | cons a b => exact ⟨_, _, rfl, a, b⟩
theorem line_of {n : Nat} (h : n ≤ 1048576) : n ≤ sizeLine := Nat.le_trans h (by decide)
section
variable {P : Params} {h : Heap}
mutual
theorem area_one : ∀ (d : WData) (v : Value), Well P h v d → plW d = true → d.weight ≤ 1048576 → ∃ A : List Addr, OkU A v ∧ ∀ a ∈ A, ArgOb h A a
  | .none, _, x, _, _ => by
    cases x
    exact ⟨[], trivial, fun a m => absurd m (by simp)⟩
  | .bool b, _, x, _, _ => by
    cases x
    exact ⟨[], trivial, fun a m => absurd m (by simp)⟩
  | .int i, _, x, _, _ => by
    cases x
    exact ⟨[], trivial, fun a m => absurd m (by simp)⟩
  | .str s, _, x, _, _ => by
    cases x
    exact ⟨[], trivial, fun a m => absurd m (by simp)⟩
  | .bytes b, _, x, _, _ => by
    cases x
    exact ⟨[], trivial, fun a m => absurd m (by simp)⟩
  | .list ds, _, x, p, z => by
    obtain ⟨a, vs, rfl, ho, hall⟩ := well_list x
    have z2 : WData.weightAll ds ≤ 1048576 := z
    obtain ⟨A, h1, h2⟩ := area_all ds _ hall p fun d hd => Nat.le_trans (weight_mem hd) z2
    have k : ∀ b ∈ A, b ∈ a :: A := fun b hb => List.mem_cons_of_mem _ hb
    refine ⟨a :: A, List.mem_cons_self .., fun b hb => ?_⟩
    rcases List.mem_cons.mp hb with e | m
    · rw [e]
      exact ⟨vs, line_of (by rw [wellAll_len hall]; exact Nat.le_trans (PySem.W.length_le_weightAllW ds) z2), fun u hu => (h1 u hu).mono k, .inl ho⟩
    · exact (h2 b m).mono k
  | .tuple ds, _, x, p, z => by
    obtain ⟨a, vs, rfl, ho, hall⟩ := well_tuple x
    have z2 : WData.weightAll ds ≤ 1048576 := z
    obtain ⟨A, h1, h2⟩ := area_all ds _ hall p fun d hd => Nat.le_trans (weight_mem hd) z2
    have k : ∀ b ∈ A, b ∈ a :: A := fun b hb => List.mem_cons_of_mem _ hb
    refine ⟨a :: A, List.mem_cons_self .., fun b hb => ?_⟩
    rcases List.mem_cons.mp hb with e | m
    · rw [e]
      exact ⟨vs, line_of (by rw [wellAll_len hall]; exact Nat.le_trans (PySem.W.length_le_weightAllW ds) z2), fun u hu => (h1 u hu).mono k, .inr ho⟩
    · exact (h2 b m).mono k
  | .float _, _, _, p, _ => Bool.noConfusion (show false = true from p)
  | .dict _, _, _, p, _ => Bool.noConfusion (show false = true from p)
  | .bytearray _, _, _, p, _ => Bool.noConfusion (show false = true from p)
  | .set _, _, _, p, _ => Bool.noConfusion (show false = true from p)
  | .frozenset _, _, _, p, _ => Bool.noConfusion (show false = true from p)
  | .obj _ _, _, _, p, _ => Bool.noConfusion (show false = true from p)
theorem area_all : ∀ (ds : List WData) (vs : List Value), WellAll P h vs ds → plWs ds = true → (∀ d ∈ ds, d.weight ≤ 1048576) → ∃ A : List Addr, (∀ u ∈ vs, OkU A u) ∧ ∀ a ∈ A, ArgOb h A a
  | [], _, x, _, _ => by
    cases x
    exact ⟨[], fun u m => absurd m (by simp), fun a m => absurd m (by simp)⟩
  | d :: ds, _, x, p, z => by
    obtain ⟨v, vs, rfl, x1, x2⟩ := well_cons x
    have q : plW d = true ∧ plWs ds = true := Bool.and_eq_true_iff.mp p
    obtain ⟨A, a1, a2⟩ := area_one d v x1 q.1 (z d (List.mem_cons_self ..))
    obtain ⟨B, b1, b2⟩ := area_all ds vs x2 q.2 fun e he => z e (List.mem_cons_of_mem _ he)
    have kA : ∀ b ∈ A, b ∈ A ++ B := fun b hb => List.mem_append.mpr (.inl hb)
    have kB : ∀ b ∈ B, b ∈ A ++ B := fun b hb => List.mem_append.mpr (.inr hb)
    refine ⟨A ++ B, fun u hu => ?_, fun b hb => ?_⟩
    · rcases List.mem_cons.mp hu with e | m
      · rw [e]
        exact a1.mono kA
      · exact (b1 u m).mono kB
    · rcases List.mem_append.mp hb with m | m
      · exact (a2 b m).mono kA
      · exact (b2 b m).mono kB
end
end
/-- what is tracked of an argument's object -/
def hoOf (o : Obj) : Option HO := match o.data with
  | .seq vs _ => if (o.cls == Value.type "list") = true then some (.frz o (.lst (vs.toList.map toV))) else some (.frz o (.tup (vs.toList.map toV)))
  | _ => none
def argH (K : PySem.W.Frag) (h : Heap) (A : List Addr) : Hp := fun b => if b ∈ A then (if (K.lookup b).isNone = true then (h.get? b).bind hoOf else none) else none
/-- nothing is tracked but what is known to the object -/
def OnlyF (H : Hp) : Prop := ∀ b, H b = none ∨ ∃ o u, H b = some (.frz o u)
theorem hoOf_lst (vs : List Value) : hoOf { cls := .type "list", data := .seq vs.toArray } = some (.frz { cls := .type "list", data := .seq vs.toArray } (.lst (vs.map toV))) := by
  show (if (Value.type "list" == Value.type "list") = true then some (HO.frz { cls := .type "list", data := .seq vs.toArray } (.lst (vs.toArray.toList.map toV))) else some (HO.frz { cls := .type "list", data := .seq vs.toArray } (.tup (vs.toArray.toList.map toV)))) = _
  rw [if_pos (beq_self_eq_true _)]
theorem hoOf_tup (vs : List Value) : hoOf { cls := .type "tuple", data := .seq vs.toArray } = some (.frz { cls := .type "tuple", data := .seq vs.toArray } (.tup (vs.map toV))) := by
  show (if (Value.type "tuple" == Value.type "list") = true then some (HO.frz { cls := .type "tuple", data := .seq vs.toArray } (.lst (vs.toArray.toList.map toV))) else some (HO.frz { cls := .type "tuple", data := .seq vs.toArray } (.tup (vs.toArray.toList.map toV)))) = _
  rw [if_neg (by decide)]
section
variable {P : Program} {w : World} {K : PySem.W.Frag} {h : Heap} {A : List Addr}
theorem argH_at {b : Addr} {o : Obj} (hb : b ∈ A) (hk : K.lookup b = none) (e : h.get? b = some o) : argH K h A b = hoOf o := by
  unfold argH
  rw [if_pos hb, hk, if_pos (show (none : Option Obj).isNone = true from rfl), e] <;> rfl
theorem of_argH {b : Addr} {u : HO} (q : argH K h A b = some u) : b ∈ A ∧ K.lookup b = none := by
  unfold argH at q
  by_cases hb : b ∈ A
  · rw [if_pos hb] at q
    cases hk : K.lookup b with
    | none => exact ⟨hb, rfl⟩
    | some o =>
      rw [hk, if_neg (by simp)] at q
      cases q
  · rw [if_neg hb] at q
    cases q
/-- what stands tracked -/
theorem argH_is (ar : ∀ a ∈ A, ArgOb h A a) {b : Addr} {u : HO} (q : argH K h A b = some u) : K.lookup b = none ∧ ∃ vs : List Value, vs.length ≤ sizeLine ∧ (∀ u ∈ vs, OkU A u) ∧
    ((h.get? b = some { cls := .type "list", data := .seq vs.toArray } ∧ u = .frz { cls := .type "list", data := .seq vs.toArray } (.lst (vs.map toV))) ∨
     (h.get? b = some { cls := .type "tuple", data := .seq vs.toArray } ∧ u = .frz { cls := .type "tuple", data := .seq vs.toArray } (.tup (vs.map toV)))) := by
  obtain ⟨hb, hk⟩ := of_argH q
  obtain ⟨vs, h1, h2, h3⟩ := ar b hb
  refine ⟨hk, vs, h1, h2, ?_⟩
  rcases h3 with e | e
  · rw [argH_at hb hk e, hoOf_lst] at q
    exact .inl ⟨e, (Option.some.inj q).symm⟩
  · rw [argH_at hb hk e, hoOf_tup] at q
    exact .inr ⟨e, (Option.some.inj q).symm⟩
theorem argH_only (ar : ∀ a ∈ A, ArgOb h A a) : OnlyF (argH K h A) := fun b => by
  cases q : argH K h A b with
  | none => exact .inl rfl
  | some u =>
    obtain ⟨_, vs, _, _, ⟨_, e⟩ | ⟨_, e⟩⟩ := argH_is ar q
    · exact .inr ⟨_, _, by rw [e]⟩
    · exact .inr ⟨_, _, by rw [e]⟩
theorem argH_ok (ar : ∀ a ∈ A, ArgOb h A a) : HOk P w (argH K h A) h := fun b u q => by
  obtain ⟨_, vs, h1, h2, ⟨e, rfl⟩ | ⟨e, rfl⟩⟩ := argH_is ar q
  · exact ⟨e, by rw [List.length_map]; exact h1, vs, _, vals_toV h2, e⟩
  · exact ⟨e, by rw [List.length_map]; exact h1, vs, vals_toV h2, _, e, rfl, _, rfl⟩
theorem seq_inj {c c' : Value} {vs us : List Value} (e : (some { cls := c, data := .seq vs.toArray } : Option Obj) = some { cls := c', data := .seq us.toArray }) : c = c' ∧ vs = us := by
  have e1 := Option.some.inj e
  have e2 : c = c' := congrArg Obj.cls e1
  have e3 : Data.seq vs.toArray = Data.seq us.toArray := congrArg Obj.data e1
  injection e3 with e4
  refine ⟨e2, ?_⟩
  have e5 := congrArg Array.toList e4
  simpa using e5
/-- a list argument -/
theorem argL (KX : K.In h) (ar : ∀ a ∈ A, ArgOb h A a) {a : Addr} {vs : List Value} (ha : a ∈ A) (e : h.get? a = some { cls := .type "list", data := .seq vs.toArray }) : (∀ u ∈ vs, OkU A u) ∧ SqL K (argH K h A) a (vs.map toV) := by
  obtain ⟨us, h1, h2, h3⟩ := ar a ha
  have hu : us = vs := by
    rcases h3 with q | q
    · rw [e] at q
      exact (seq_inj q).2.symm
    · rw [e] at q
      exact absurd (Value.type.inj (seq_inj q).1) (by decide)
  subst hu
  refine ⟨h2, ?_⟩
  cases hk : K.lookup a with
  | none => exact .inl (.inr ⟨_, by rw [argH_at ha hk e, hoOf_lst]⟩)
  | some o =>
    have e2 := KX a o hk
    rw [e] at e2
    obtain rfl := Option.some.inj e2
    exact .inr ⟨_, us.toArray, _, hk, rfl, rfl, rfl, by rw [List.size_toArray]; exact h1, by simpa using vals_toV h2⟩
theorem argT (KX : K.In h) (ar : ∀ a ∈ A, ArgOb h A a) {a : Addr} {vs : List Value} (ha : a ∈ A) (e : h.get? a = some { cls := .type "tuple", data := .seq vs.toArray }) : (∀ u ∈ vs, OkU A u) ∧ SqT K (argH K h A) a (vs.map toV) := by
  obtain ⟨us, h1, h2, h3⟩ := ar a ha
  have hu : us = vs := by
    rcases h3 with q | q
    · rw [e] at q
      exact absurd (Value.type.inj (seq_inj q).1) (by decide)
    · rw [e] at q
      exact (seq_inj q).2.symm
  subst hu
  refine ⟨h2, ?_⟩
  cases hk : K.lookup a with
  | none => exact .inl (.inr ⟨_, by rw [argH_at ha hk e, hoOf_tup]⟩)
  | some o =>
    have e2 := KX a o hk
    rw [e] at e2
    obtain rfl := Option.some.inj e2
    exact .inr ⟨_, us.toArray, _, hk, rfl, rfl, by rw [List.size_toArray]; exact h1, by simpa using vals_toV h2⟩
mutual
theorem dw_one {Pm : Params} (KX : K.In h) (ar : ∀ a ∈ A, ArgOb h A a) : ∀ (d : WData) (v : Value), Well Pm h v d → plW d = true → OkU A v → Dw K (argH K h A) (toV v) d
  | .none, _, x, _, _ => by
    cases x
    exact .non
  | .bool b, _, x, _, _ => by
    cases x
    exact .bl b
  | .int i, _, x, _, _ => by
    cases x
    exact .int i
  | .str s, _, x, _, _ => by
    cases x
    exact .str s
  | .bytes b, _, x, _, _ => by
    cases x
    have z := Dw.byt (K := K) (H := argH K h A) b.toArray
    exact z
  | .list ds, _, x, p, hu => by
    obtain ⟨a, vs, rfl, ho, hall⟩ := well_list x
    obtain ⟨h2, hs⟩ := argL KX ar hu ho
    exact .lst hs (dw_all KX ar ds _ hall p h2)
  | .tuple ds, _, x, p, hu => by
    obtain ⟨a, vs, rfl, ho, hall⟩ := well_tuple x
    obtain ⟨h2, hs⟩ := argT KX ar hu ho
    exact .tup hs (dw_all KX ar ds _ hall p h2)
  | .float _, _, _, p, _ => Bool.noConfusion (show false = true from p)
  | .dict _, _, _, p, _ => Bool.noConfusion (show false = true from p)
  | .bytearray _, _, _, p, _ => Bool.noConfusion (show false = true from p)
  | .set _, _, _, p, _ => Bool.noConfusion (show false = true from p)
  | .frozenset _, _, _, p, _ => Bool.noConfusion (show false = true from p)
  | .obj _ _, _, _, p, _ => Bool.noConfusion (show false = true from p)
theorem dw_all {Pm : Params} (KX : K.In h) (ar : ∀ a ∈ A, ArgOb h A a) : ∀ (ds : List WData) (vs : List Value), WellAll Pm h vs ds → plWs ds = true → (∀ u ∈ vs, OkU A u) → DwAll K (argH K h A) (vs.map toV) ds
  | [], _, x, _, _ => by
    cases x
    exact .nil
  | d :: ds, _, x, p, hu => by
    obtain ⟨v, vs, rfl, x1, x2⟩ := well_cons x
    have q : plW d = true ∧ plWs ds = true := Bool.and_eq_true_iff.mp p
    exact .cons (dw_one KX ar d v x1 q.1 (hu _ (List.mem_cons_self ..))) (dw_all KX ar ds vs x2 q.2 fun u m => hu u (List.mem_cons_of_mem _ m))
end
end
/-! ### the call -/
/-! ### the row -/
theorem layable_weight {ds : List WData} (h : WData.layableAll ds = true) : ∀ d ∈ ds, d.weight ≤ 1048576 := fun d hd =>
  (PySem.W.layableW_iff.mp (List.all_eq_true.mp h d hd)).2.2
theorem encAll_len : ∀ (cs : List Codec) (a : Codec.denoteAll cs), (Codec.encAll cs a).length = cs.length
  | [], _ => rfl
  | c :: cs, a => by
    show (Codec.encAll cs a.2).length + 1 = cs.length + 1
    rw [encAll_len cs a.2]
end L2
end

set_option Elab.async false
set_option linter.all false
set_option autoImplicit false
set_option maxRecDepth 100000
set_option maxHeartbeats 2000000
namespace KL
open PySem PySem.Spec PyProof.Rows L2
/-! ### a lambda of one parameter p that reads one name q of its def -/
abbrev lamCx (X : Cx) (A : Around) (p q : Str) (s : Shared) (H : Hp) (env : Env) : Cx :=
  { X with A := A.deeper env, N := [p, q], s_0 := s, H_0 := H, env := env, outer := X.stack, stack := env :: X.stack, ex := [], fn := fun _ => false, calm := true, pn := [], xe := fun _ _ => False }
section
variable {X : Cx} {pins : List (Addr × Obj)} {σ : L2.St} {H : Hp} {s : Shared}
theorem lam_start {A : Around} {p q : Str} {qual : Str} {scope : Scope} {f c c' : Addr} {u : Value} {x vq : V} {h₁ : Heap} {tk : Nat} {i : Nat}
    (I : Inv X pins σ H s) (hA : A.frames = X.A.frames) (hAh : A.handled = none)
    (hn : scope.names = [(p, .local), (q, .free)]) (hpq : (q == p) = false) (hk : scope.kind = .function) (hc : X.env.cells.lookup q = some c) (hi : X.N[i]? = some q) (hσ : σ[i]? = some (some vq)) (hv : X.env.scope.names.lookup q = some .cell) (r : RelV x u)
    (hns : h₁.Ns s.heap.objs.size (fun y => [(p, u)].reverse.lookup y)) (kp : ∀ b o, s.heap.get? b = some o → h₁.get? b = some o) :
    Inv (lamCx X A p q s H (PySem.W.envX qual scope s.heap.objs.size f (.ref c') [(q, c)])) [] [some x, some vq] H { s with heap := h₁, toks := tk } := by
  have hqc : ∀ y z, ([(q, c)] : List (Str × Addr)).lookup y = some z → y = q ∧ z = c := fun y z e => by
    rw [List.lookup_cons] at e
    cases h : y == q with
    | true => rw [h] at e; exact ⟨eq_of_beq h, (Option.some.inj e).symm⟩
    | false => rw [h] at e; cases e
  have hself : ([(q, c)] : List (Str × Addr)).lookup q = some c := by rw [List.lookup_cons, beq_self_eq_true]
  have kq : scope.names.lookup q = some .free := by rw [hn, List.lookup_cons, hpq, List.lookup_cons, beq_self_eq_true]
  have kpp : scope.names.lookup p = some .local := by rw [hn, List.lookup_cons, beq_self_eq_true]
  have ok : (lamCx X A p q s H (PySem.W.envX qual scope s.heap.objs.size f (.ref c') [(q, c)])).Ok := by
    refine ⟨I.ok.mod, hk, rfl, rfl, Nat.le_refl _, fun y z d h1 h2 => ?_, fun y hy => ?_, fun y d z => Bool.noConfusion z, fun _ => hAh, Around.frames_deeper (hA.trans I.ok.frames), .inr ⟨rfl, rfl⟩, fun b z => absurd z List.not_mem_nil, I.bs, Nat.le_trans I.ok.bsz I.sz, fun b _ _ => List.not_mem_nil, fun b z => absurd z List.not_mem_nil, I.stack, I.stkFree⟩
    · rw [(hqc y d h1).1, (hqc z d h2).1]
    · have hy : scope.names.lookup y = some .cell ∨ scope.names.lookup y = some .free := hy
      have : y = q := by
        rw [hn, List.lookup_cons, List.lookup_cons, List.lookup_nil] at hy
        cases h1 : y == p with
        | true => rw [h1] at hy; rcases hy with hy | hy <;> cases hy
        | false =>
          cases h2 : y == q with
          | true => exact eq_of_beq h2
          | false => rw [h1, h2] at hy; rcases hy with hy | hy <;> cases hy
      subst this
      exact ⟨c, hself⟩
  obtain ⟨m, hm, hl⟩ := I.loc
  obtain ⟨uq, rq, lq⟩ := hl i q vq hi hσ (.inr (.inl hv))
  refine ⟨ok, rfl, I.bare, Un.kept kp, ⟨_, hns, fun j y v e1 e2 e3 => ?_⟩, fun y d e => ?_, I.hok.fresh (Nat.le_refl _), fun y d e => ?_, fun p hp => absurd hp List.not_mem_nil, I.hok.kept kp, rfl⟩
  · have e1 : ([p, q] : List Str)[j]? = some y := e1
    match j, e1, e2 with
    | 0, e1, e2 =>
      cases e1
      cases e2
      refine ⟨u, r, .inl ⟨kpp, ?_⟩⟩
      show ([(p, u)].reverse).lookup p = some u
      rw [List.reverse_singleton, List.lookup_cons, beq_self_eq_true]
    | 1, e1, e2 =>
      cases e1
      cases e2
      refine ⟨uq, rq, .inr ⟨.inr kq, c, hself, ?_⟩⟩
      rcases lq with ⟨k, _⟩ | ⟨_, c2, e, z⟩
      · have k : X.env.scope.names.lookup q = some .local := k
        rw [hv] at k; cases k
      · rw [hc] at e; cases e
        exact z.keeps kp
    | j + 2, e1, e2 => cases e1
  · have e : ([(q, c)] : List (Str × Addr)).lookup y = some d := e
    obtain ⟨rfl, rfl⟩ := hqc y d e
    obtain ⟨v, z⟩ := I.cell y d hc
    exact ⟨v, z.keeps kp⟩
  · have e : ([(q, c)] : List (Str × Addr)).lookup y = some d := e
    obtain ⟨rfl, rfl⟩ := hqc y d e
    exact I.freeC y d hc
/-- it is called -/
theorem lam_call {A : Around} {p q : Str} {name qual : Str} {params : Arguments} {body : Expr} {scope : Scope} {f c c' : Addr} {pm ctv : Value} {u : Value} {x vq : V} {i : Nat} {t : TE} {Q : VK} {E : Value → Shared → Prop}
    (I : Inv X pins σ H s) (hA : A.frames = X.A.frames) (hAh : A.handled = none) (hroom : A.depth < recursionLimit)
    (hf : s.heap.get? f = some (PySem.W.kla_obj name qual params body scope [(q, c)] pm c' ctv)) (hrec : s.heap.CodeRec (.ref c') qual)
    (hn : scope.names = [(p, .local), (q, .free)]) (hpq : (q == p) = false) (hk : scope.kind = .function) (hco : scope.isCoroutine = false) (hgen : scope.isGenerator = false)
    (hb : bindArgs (PySem.W.kla_fn name qual params body scope [(q, c)] pm (.ref c') ctv) ⟨[u], []⟩ = pure [(p, u)])
    (hc : X.env.cells.lookup q = some c) (hi : X.N[i]? = some q) (hσ : σ[i]? = some (some vq)) (hv : X.env.scope.names.lookup q = some .cell) (r : RelV x u)
    (ht : ∀ L, PE (lamCx X A p q s H (PySem.W.envX qual scope L f (.ref c') [(q, c)])) body t) (hq : t [some x, some vq] H Q) :
    wpAny (model X.prog X.w) A (call (.ref f) [u]) (EP X pins σ Q) E s := by
  refine wpAny_call (codeAny_mono (R := fun r s' => match r with | .ok (.ret v) => CE X.stack X.prog X.w H s Q v s' | .ok _ => False | .error _ => False) ?_ fun r s' hr => ?_)
  · refine PySem.W.kla_callFunE hroom hf rfl hco hgen rfl hrec ?_
    rw [hb]
    refine wpAny_pure (wpAny_newFunctionEnv (fun y hy => ?_) (fun y hy => ?_) (fun h₁ hns hsb => ⟨(I.nolimit).fresh _ hsb, ?_⟩) hk)
    · rw [show (PySem.W.kla_fn name qual params body scope [(q, c)] pm (.ref c') ctv).scope = scope from rfl, hn] at hy
      rcases List.mem_cons.mp hy with rfl | hy
      · intro z; cases z
      · rw [List.mem_singleton.mp hy]; intro z; cases z
    · rw [List.mem_singleton.mp hy]
      show scope.names.lookup p = _
      rw [hn, List.lookup_cons, beq_self_eq_true]
    · have kp : ∀ b o, s.heap.get? b = some o → h₁.get? b = some o := fun b o e => hsb.extBut b o (Nat.ne_of_lt (Heap.lt_size e)) (Heap.get?_push_of_some _ e)
      refine PySem.W.kla_codeExpr ?_
      have J := lam_start (tk := s.toks + 1) (qual := qual) (f := f) (c' := c') I hA hAh hn hpq hk hc hi hσ hv r hns kp
      refine wpAny_mono (ht s.heap.objs.size [] _ _ H Q J hq) (fun v s' hv' => ?_) fun _ _ z => z.elim
      obtain ⟨y, H', J', ry, qy⟩ := hv'
      exact ⟨y, H', J'.os, J'.bare, J'.base, J'.hok, ry, qy⟩
  · cases r with
    | error e => exact hr.elim
    | ok fl =>
      cases fl with
      | ret v => exact I.after hr
      | next => exact hr.elim
      | brk => exact hr.elim
      | cont => exact hr.elim
end
/-! ### a lambda is made -/
/-- the builtins' module, of the main module's names -/
def BMain (mg : Str → Option Value) (h : Heap) : Prop := ∃ bm o, mg "__builtins__" = some (.ref bm) ∧ bm ≠ builtinsNs ∧ bm ≠ mainGlobals ∧ h.get? bm = some o ∧ o.cls = .type "module" ∧ o.dict = some builtinsNs ∧ o.data = .plain
/-- a def's table: the lambda's code isn't in it yet, or it is -/
def TabOk (H : Hp) (P : Addr) (pos : Pos) (qual : Str) : Prop := ∃ ps, H P = some (.tbl ps) ∧ PySem.TriplesOk ps.toList ∧
  (codeAmong pos ps.toList = none ∨ ∃ c', codeAmong pos ps.toList = some (.ref c') ∧ H c' = some (.ext fun h => h.CodeRec (.ref c') qual))
/-- kept but for one place -/
def SameP (P : Addr) (H H' : Hp) : Prop := ∀ b o, b ≠ P → H b = some o → H' b = some o
theorem triples_snoc {a b : Nat} {c : Value} : ∀ (l : List Value), PySem.TriplesOk l → PySem.TriplesOk (l ++ [rawInt a, rawInt b, c])
  | [], _ => trivial
  | .int _ _ :: .int _ _ :: _ :: r, h => triples_snoc r h
section
variable {X : Cx} {pins : List (Addr × Obj)} {σ : L2.St} {H : Hp} {s : Shared}
theorem lam_make {params : Arguments} {body : Expr} {scope : Scope} {pos : Pos} {c0 P : Addr} {clos : List (Str × Addr)} {Q : Value → Shared → Prop} {E : Value → Shared → Prop}
    (I : Inv X pins σ H s) (hcode : X.env.code = .ref c0) (C : PySem.W.CodeHd X.base c0 P) (hP : TabOk H P pos (X.env.qual ++ "<lambda>")) (hB : BMain X.mg X.base) (hcl : closureFor scope X.env = pure clos) (hdef : defaultsOf params X.env = ([], []))
    (h : ∀ f c' pm ctv H' s', Inv X pins σ H' s' → SameP P H H' → TabOk H' P pos (X.env.qual ++ "<lambda>") → (∀ b, s.heap.objs.size ≤ b → H b = none) → H' f = none → s.heap.objs.size ≤ f → s'.heap.get? f = some (PySem.W.kla_obj "<lambda>" (X.env.qual ++ "<lambda>") params body scope clos pm c' ctv) → s'.heap.CodeRec (.ref c') (X.env.qual ++ "<lambda>") → H' c' = some (.ext fun h => h.CodeRec (.ref c') (X.env.qual ++ "<lambda>")) → Q (.ref f) s') :
    wpAny (model X.prog X.w) X.A (eval (.Lambda params body scope pos) X.env) Q E s := by
  refine PySem.W.kla_eval hdef ?_
  obtain ⟨ps, hp, htr, hor⟩ := hP
  have hPs : s.heap.get? P = some (PySem.W.tabObj ps) := I.hok P _ hp
  have hgs : s.heap.Ns mainGlobals X.mg := I.ok.mod.glob.keeps I.bk
  have neP : ∀ b o, X.base.get? b = some o → b ≠ P := fun b o e z => by
    have := (I.bs b o e).2
    rw [z, hp] at this; cases this
  have hgP : mainGlobals ≠ P := by
    obtain ⟨o, es, ep, e, _⟩ := I.ok.mod.glob
    exact neP _ _ e
  have hBs : s.heap.BuiltinsAt X.mg P := by
    obtain ⟨bm, o, h1, h2, h3, h4, h5⟩ := hB
    exact ⟨bm, o, h1, h2, h3, neP _ _ h4, I.bk _ _ h4, h5⟩
  have Cs := C.keeps I.bk
  have fr : ∀ b, s.heap.objs.size ≤ b → H b = none := fun b hb => I.hok.fresh hb
  rcases hor with hno | ⟨c', hit, hc'⟩
  · refine PySem.W.kla_makeFunction hcl I.ok.glob hgs hcode Cs hPs htr hno hgP hBs fun c' ctv h' tk hx hge hlt hrec htb => ?_
    have nc : H c' = none := fr c' hge
    have pc : P ≠ c' := fun z => by rw [z, nc] at hp; cases hp
    let H' : Hp := upd (upd H P (.tbl (ps ++ #[rawInt pos.line, rawInt pos.col, .ref c']))) c' (.ext fun h => h.CodeRec (.ref c') (X.env.qual ++ "<lambda>"))
    have HP : H' P = some (.tbl (ps ++ #[rawInt pos.line, rawInt pos.col, .ref c'])) := by
      show upd (upd H P _) c' _ P = _
      rw [upd_ne pc, upd_same]
    have Hc : H' c' = some (.ext fun h => h.CodeRec (.ref c') (X.env.qual ++ "<lambda>")) := upd_same
    have Hn : ∀ b, b ≠ P → b ≠ c' → H' b = H b := fun b h1 h2 => by
      show upd (upd H P _) c' _ b = _
      rw [upd_ne h2, upd_ne h1]
    have Sm : ∀ b o, b ≠ P → H b = some o → H' b = some o := fun b o h1 e => by rw [Hn b h1 (fun z => by rw [z, nc] at e; cases e)]; exact e
    have ct : ∀ b o, s.heap.get? b = some o → b ≠ c' := fun b o e z => by
      have := Heap.lt_size e
      rw [z] at this
      exact absurd (Nat.lt_of_lt_of_le this hge) (Nat.lt_irrefl _)
    have keep : ∀ b o, b ≠ P → s.heap.get? b = some o → (h'.push (PySem.W.kla_obj "<lambda>" (X.env.qual ++ "<lambda>") params body scope clos ((X.mg "__name__").getD .none) c' ctv)).get? b = some o := fun b o h1 e => Heap.get?_push_of_some _ (hx b o h1 e)
    have noneP : ∀ b, H b = none → b ≠ P := fun b e z => by rw [z, hp] at e; cases e
    have hok : HOk X.prog X.w H' (h'.push (PySem.W.kla_obj "<lambda>" (X.env.qual ++ "<lambda>") params body scope clos ((X.mg "__name__").getD .none) c' ctv)) := by
      intro b o e
      by_cases h1 : b = c'
      · subst h1
        rw [Hc] at e; cases e
        have hr' := hrec.push (PySem.W.kla_obj "<lambda>" (X.env.qual ++ "<lambda>") params body scope clos ((X.mg "__name__").getD .none) b ctv)
        refine ⟨hr', ?_, fun g1 g2 z k => ?_⟩
        · obtain ⟨c2, o2, vs, t, e2, e3, _⟩ := hr'
          cases e2
          exact ⟨o2, e3⟩
        · obtain ⟨c2, o2, vs, t, e2, e3, e4⟩ := z
          cases e2
          exact ⟨_, o2, vs, t, rfl, k _ e3, e4⟩
      · by_cases h2 : b = P
        · subst h2
          rw [HP] at e; cases e
          exact Heap.get?_push_of_some _ htb
        · have e0 := e
          rw [Hn b h2 h1] at e0
          refine (I.hok b o e0).stay (fun d u hd q => keep d u ?_ q) (fun d q => ?_) (fun d xs q => ?_)
          · rcases hd with rfl | hd
            · exact h2
            · rintro rfl
              rw [hp] at hd; cases hd
          · exact Sm d _ (by rintro rfl; rw [hp] at q; cases q) q
          · exact Sm d _ (by rintro rfl; rw [hp] at q; cases q) q
    have un : Un X.fs [] H H' s.heap (h'.push (PySem.W.kla_obj "<lambda>" (X.env.qual ++ "<lambda>") params body scope clos ((X.mg "__name__").getD .none) c' ctv)) := by
      refine ⟨fun b o e n _ _ => keep b o (noneP b n) e, fun b o e n _ _ => ⟨o.slots, keep b o (noneP b n) e⟩, fun b o e n _ => by rw [Hn b (noneP b n) (ct b o e)]; exact n, fun b o e _ => ?_, fun b xs e => Sm b _ (by rintro rfl; rw [hp] at e; cases e) e, fun b o u e => Sm b _ (by rintro rfl; rw [hp] at e; cases e) e, fun b qs e => ?_⟩
      · by_cases h2 : b = P
        · subst h2
          exact ⟨_, Heap.get?_push_of_some _ htb⟩
        · exact ⟨o, keep b o h2 e⟩
      · by_cases h2 : b = P
        · subst h2
          rw [hp] at e; cases e
          exact ⟨_, HP⟩
        · exact ⟨#[], by rw [Sm b _ h2 e]; simp⟩
    have fs : s.heap.objs.size ≤ h'.objs.size := Nat.le_trans hge (Nat.le_of_lt hlt)
    refine h h'.objs.size c' _ ctv H' _ (I.un (t' := tk) un hok) Sm ⟨_, HP, ?_, .inr ⟨c', ?_, Hc⟩⟩ fr ?_ fs (Heap.get?_push_size _ rfl) (hrec.push _) Hc
    · rw [Array.toList_append]
      exact triples_snoc _ htr
    · rw [Array.toList_append]
      exact codeAmong_snoc _ htr hno
    · rw [Hn _ (fun z => by rw [z] at fs; exact absurd (Nat.lt_of_lt_of_le (Heap.lt_size hPs) fs) (Nat.lt_irrefl _)) (Nat.ne_of_gt hlt)]
      exact fr _ fs
  · have hrec : s.heap.CodeRec (.ref c') (X.env.qual ++ "<lambda>") := (I.hok c' _ hc').1
    refine PySem.W.kla_makeFunctionHit hcl I.ok.glob hgs hcode Cs hPs htr hit hBs fun ctv h' tk hk hsz => ?_
    exact h h'.objs.size c' _ ctv H _ (I.kept (t' := tk) fun b o e => Heap.get?_push_of_some _ (hk b o e)) (fun b o _ e => e) ⟨ps, hp, htr, .inr ⟨c', hit, hc'⟩⟩ fr (fr _ hsz) hsz (Heap.get?_push_size _ rfl) (hrec.keeps fun b o e => Heap.get?_push_of_some _ (hk b o e)) hc'
end
/-! ### sorted by a key -/
section
variable {X : Cx} {pins : List (Addr × Obj)} {σ : L2.St} {H : Hp} {s : Shared}
/-- an untracked list of ours is changed -/
theorem Inv.mine {a : Addr} {g : Obj → Obj} {t' : Nat} (I : Inv X pins σ H s) (m : FpOk X pins H a) : Inv X pins σ H { s with heap := s.heap.update a g, toks := t' } :=
  Inv.turned I (fun b o hb e => by rw [Heap.get?_update_ne _ _ _ _ hb]; exact e) m.1 m.2.1 m.2.2.2.1 m.2.2.2.2.1 m.2.2.2.2.2
/-- an untracked list of ours is tracked from now on -/
theorem Inv.adopt {a : Addr} {xs : List V} {its : List Value} {n : Nat} (I : Inv X pins σ H s) (m : FpOk X pins H a) (e : s.heap.get? a = some (seqObj "list" its.toArray n)) (r : Vals xs its) (z : xs.length ≤ sizeLine) : Inv X pins σ (upd H a (.lst xs)) s := by
  have na : ∀ b o, H b = some o → b ≠ a := fun b o e q => by rw [q, m.1] at e; cases e
  have J := I.step (H' := upd H a (.lst xs)) (h' := s.heap) (g' := s.gens) (t' := s.toks) (d' := s.drawn) (ch := [a]) (fun b hb => by rw [List.mem_singleton.mp hb]; exact ⟨m.2.2.2.1, m.2.1, m.2.2.2.2.1, m.2.2.2.2.2⟩) (fun b o _ _ _ e _ => e) (fun b o _ _ _ e _ => ⟨o.slots, e⟩)
    (fun b o hb e n => by rw [upd_ne (fun q => hb (List.mem_singleton.mpr q))]; exact n) (fun b o _ e => ⟨o, e⟩) (fun b ys e => by rw [upd_ne (na _ _ e)]; exact e) (fun b o u0 e => by rw [upd_ne (na _ _ e)]; exact e) (fun b ps e => ⟨#[], by rw [upd_ne (na _ _ e), e]; simp⟩) (fun _ h => h) (fun b o q => ?_) I.bare
  · exact J
  · by_cases c : b = a
    · subst c
      rw [upd_same] at q; cases q
      exact ⟨z, its, n, r, e⟩
    · rw [upd_ne c] at q
      exact (I.hok b o q).stay (fun _ _ _ h => h) (fun d h => by rw [upd_ne (na _ _ h)]; exact h) fun d ys h => by rw [upd_ne (na _ _ h)]; exact h
theorem pinOk {a : Addr} {o : Obj} (m : FpOk X pins H a) (e : s.heap.get? a = some o) (hd : ∀ v0, o.data ≠ .cell v0) : s.heap.get? a = some o ∧ H a = none ∧ a ≠ X.env.locals ∧ a ∉ X.fs ∧ ∀ v0, o.data ≠ .cell v0 := ⟨e, m.1, m.2.1, m.2.2.1, hd⟩
variable {A : Around} {E : Value → Shared → Prop} {a S : Addr} {b : Bool} {us : List Value} {ms : List Int} {g : Int → Int} {e1 : Nat} {P : PySem.Fin → Shared → Prop} {f : Value}
theorem upd_list {h : Heap} {a : Addr} {xs : Array Value} {n : Nat} (e : h.get? a = some (seqObj "list" xs n)) (g : Array Value → Array Value) : ∃ c, (h.update a (Obj.mapSeq g)).get? a = some (seqObj "list" (g xs) c) := ⟨_, get?_update_seq e g⟩
theorem sk_tail {kz : Array Value} {e : Nat} {st : SortSt} (I : Inv X pins σ H s) (mA : FpOk X pins H a) (mK : FpOk X pins H S) (dS : S ≠ a) (ha : s.heap.get? a = some (seqObj "list" #[] e1)) (hk' : s.heap.get? S = some (seqObj "list" kz e))
    (hk : IntsAre kz.toList (ms.map g)) (ln : ms.length = us.length) (room : us.length ≤ sizeLine) (hPm : (arrOf st).Perm (kz.zip us.toArray)) (hSo : SortedTo (arrOf st) (arrOf st).size) (hfl : failedOf st = none)
    (h : ∀ s' out c, Inv X pins σ H s' → s'.heap.get? a = some (seqObj "list" out c) → KskOut b (ms.map g) us out.toList → P (.done (.ret .none)) s') :
    wpAny (model X.prog X.w) A (ksk_tail a b e1 (.ref S) st) P E s := by
  have n1 : kz.size = us.length := by
    have q1 := hk.length
    rw [Array.length_toList, List.length_map] at q1; omega
  have n2 : (arrOf st).size = us.length := by rw [hPm.size_eq, Array.size_zip, n1, List.size_toArray, Nat.min_self]
  have ko := ksk_out (b := b) hk hPm hSo
  have n3 : (if b then ((arrOf st).map (·.2)).reverse else (arrOf st).map (·.2)).size = us.length := by cases b <;> simp [n2]
  unfold ksk_tail
  try dsimp only
  generalize (if b = true then ((arrOf st).map (·.2)).reverse else (arrOf st).map (·.2)) = out at ko n3 ⊢
  have na1 : (s.heap.update S (Obj.mapSeq fun _ => (#[] : Array Value))).get? a = some (seqObj "list" #[] e1) := by rw [Heap.get?_update_ne _ _ _ _ dS.symm]; exact ha
  obtain ⟨c2, hc2⟩ := upd_list na1 (fun _ => out)
  have I1 : Inv X pins σ H { s with heap := s.heap.update S (Obj.mapSeq fun _ => (#[] : Array Value)) } := Inv.mine (t' := s.toks) I mK
  have I2 : Inv X pins σ H { s with heap := (s.heap.update S (Obj.mapSeq fun _ => (#[] : Array Value))).update a (Obj.mapSeq fun _ => out) } := Inv.mine (t' := s.toks) I1 mA
  refine wpAny_bind (listUpdate_at hk' rfl ?_ (by rw [n1]; exact room) (Nat.zero_le _))
  refine wpAny_bind (wpAny_letGo (wpAny_bind (seqEpoch_at na1 rfl ?_)))
  refine wpAny_bind (listUpdate_at na1 rfl ?_ (Nat.zero_le _) (by rw [n3]; exact Nat.le_succ_of_le room))
  rw [hfl, bne_self_eq_false, if_neg Bool.false_ne_true]
  exact wpAny_pure (h _ _ c2 I2 hc2 ko)
theorem sk_end {kz : Array Value} {e : Nat} (I : Inv X pins σ H s) (mA : FpOk X pins H a) (mK : FpOk X pins H S) (dS : S ≠ a) (ha : s.heap.get? a = some (seqObj "list" #[] e1)) (hk' : s.heap.get? S = some (seqObj "list" kz e))
    (hk : IntsAre kz.toList (ms.map g)) (ln : ms.length = us.length) (room : us.length ≤ sizeLine)
    (h : ∀ s' out c, Inv X pins σ H s' → s'.heap.get? a = some (seqObj "list" out c) → KskOut b (ms.map g) us out.toList → P (.done (.ret .none)) s') :
    wpAny (model X.prog X.w) A (ksk_end a b us.toArray e1 (.ref S) kz) P E s := by
  have n1 : kz.size = us.length := by
    have q1 := hk.length
    rw [Array.length_toList, List.length_map] at q1
    omega
  have n4 : (kz.zip us.toArray).size = us.length := by rw [Array.size_zip, n1, List.size_toArray, Nat.min_self]
  have step : ∀ t : Sem PySem.Fin, wpAny (model X.prog X.w) A t P E s → wpAny (model X.prog X.w) A (if b = true then (do let _ ← rule "list.sort.reverse"; t) else t) P E s := by
    intro t ht
    split
    · refine wpAny_bind (wpAny_rule ?_); exact ht
    · exact ht
  have pm : (if b = true then (kz.zip us.toArray).reverse else kz.zip us.toArray).Perm (kz.zip us.toArray) := by
    cases b with
    | false => rw [if_neg Bool.false_ne_true]
    | true => refine Array.perm_iff_toList_perm.mpr ?_; rw [if_pos rfl, Array.toList_reverse]; exact List.reverse_perm _
  unfold ksk_end
  try dsimp only
  refine step _ ?_
  by_cases q2 : us.toArray.size < 2
  · rw [if_pos q2, if_pos q2]
    refine wpAny_bind (wpAny_pure ?_)
    rw [StateT.run_pure]
    refine wpAny_bind (wpAny_pure ?_)
    try dsimp only
    refine sk_tail (st := SortSt.mk' general' (if b = true then (kz.zip us.toArray).reverse else kz.zip us.toArray) #[] 7 none) I mA mK dS ha hk' hk ln room pm ?_ rfl h
    intro i j hij lj
    have hj2 : j < (if b = true then (kz.zip us.toArray).reverse else kz.zip us.toArray).size := lj
    rw [pm.size_eq, n4] at hj2
    rw [List.size_toArray] at q2
    have : i = j := by omega
    subst this
    exact Int.le_refl _
  · rw [if_neg q2, if_neg q2]
    rw [List.size_toArray] at q2
    rw [ksk_kind hk (by rw [n1]; omega)]
    refine wpAny_bind (wpAny_pure ?_)
    refine wpAny_bind (wpAny_mono (wpS_sortRunsAny (κ := PyProof.Rows.intKind) (a₀ := kz.zip us.toArray) (st := SortSt.mk' oneType' (if b = true then (kz.zip us.toArray).reverse else kz.zip us.toArray) #[] 7 none)
      (Q := fun _ st' => (arrOf st').Perm (kz.zip us.toArray) ∧ failedOf st' = none ∧ SortedTo (arrOf st') (kz.zip us.toArray).size)
      intKind_oneLt (ksk_keysOfInt (ksk_intKeys hk)) ⟨pm, rfl, rfl⟩ rfl (by rw [n4]; omega) fun st' a1 a2 a3 => ⟨a1, a2, sortedTo_of_int a3⟩) ?_ fun _ _ e => e)
    rintro ⟨⟨⟩, st'⟩ s' ⟨rfl, hPm, hF, hSo⟩
    try dsimp only
    exact sk_tail I mA mK dS ha hk' hk ln room hPm (by rw [hPm.size_eq]; exact hSo) hF h
theorem sk_rest (I : Inv X pins σ H s) (mA : FpOk X pins H a) (mK : FpOk X pins H S) (dS : S ≠ a) (ha : s.heap.get? a = some (seqObj "list" #[] e1)) (hk' : s.heap.get? S = some (seqObj "list" #[] 0))
    (hi : IntsAre us ms) (room : us.length ≤ sizeLine)
    (turn : ∀ (ps : List (Addr × Obj)) (s' : Shared) (n : Int) (t : Tok), n ∈ ms → Inv X (pins ++ ps) σ H s' → wpAny (model X.prog X.w) A (call f [.int n t]) (EP X (pins ++ ps) σ fun v0 H' => v0 = .int (g n) ∧ H' = H) (fun _ _ => False) s')
    (h : ∀ s' out c, Inv X pins σ H s' → s'.heap.get? a = some (seqObj "list" out c) → KskOut b (ms.map g) us out.toList → P (.done (.ret .none)) s') :
    wpAny (model X.prog X.w) A (ksk_rest a f b us.toArray e1 (.ref S)) P E s := by
  have ln : ms.length = us.length := hi.length.symm
  unfold ksk_rest
  refine wpAny_bind (wpAny_rule ?_)
  first | rw [List.forIn_toArray] | (rw [← Array.forIn_toList]; simp only [List.toList_toArray]) | rw [← Array.forIn_toList]
  refine wpAny_bind (ksk_fold (fun i s' => Inv X pins σ H s' ∧ s'.heap.get? a = some (seqObj "list" #[] e1) ∧ ∃ kA e, s'.heap.get? S = some (seqObj "list" kA e) ∧ IntsAre kA.toList ((ms.map g).take i)) us 0 s
    ⟨I, ha, #[], 0, hk', by simpa using IntsAre.nil⟩ ?step ?done)
  case step =>
    rintro j y0 s' hx ⟨I', ha', kA, e, hkA, hk⟩
    rw [Nat.zero_add] at hk; rw [Nat.zero_add]
    have lj : j < us.length := (List.getElem?_eq_some_iff.mp hx).1
    obtain ⟨n, hN⟩ : ∃ n, ms[j]? = some n := ⟨_, List.getElem?_eq_getElem (by omega)⟩
    obtain ⟨t, ht⟩ := hi.get j n hN
    rw [hx] at ht
    cases ht
    have lz : kA.size ≤ us.length := by
      have q1 := hk.length
      rw [Array.length_toList, List.length_take, List.length_map] at q1
      omega
    have lz2 : kA.size < us.length := by
      have q1 := hk.length
      rw [Array.length_toList, List.length_take, List.length_map] at q1
      omega
    have nocell : ∀ (xs : Array Value) (n : Nat) (v0 : Option Value), (seqObj "list" xs n).data ≠ .cell v0 := fun xs n v0 z => by cases z
    have I2 : Inv X (pins ++ [(a, seqObj "list" #[] e1), (S, seqObj "list" kA e)]) σ H s' := I'.pins_of fun p hPm => by
      rcases List.mem_append.mp hPm with hPm | hPm
      · exact I'.pin p (List.mem_append_right _ hPm)
      · rcases List.mem_cons.mp hPm with rfl | hPm
        · exact pinOk mA ha' (nocell _ _)
        · rw [List.mem_singleton.mp hPm]
          exact pinOk mK hkA (nocell _ _)
    refine wpAny_bind (wpAny_attempt (wpAny_mono (turn _ s' n t (List.mem_of_getElem? hN) I2) (fun v0 s'' he => ?_) fun _ _ hF => hF.elim))
    obtain ⟨v', H', J, rv, rfl, rfl⟩ := he
    obtain ⟨t2, rfl⟩ := rv
    try dsimp only
    have pa := (J.pin (a, seqObj "list" #[] e1) (List.mem_append_right _ (List.mem_append_right _ (.head _)))).1
    have pk := (J.pin (S, seqObj "list" kA e) (List.mem_append_right _ (List.mem_append_right _ (.tail _ (.head _))))).1
    have J0 : Inv X pins σ H' s'' := J.pins_of fun p hPm => J.pin p (List.mem_append_right _ (List.mem_append_left _ hPm))
    obtain ⟨c2, hc2⟩ : ∃ c2, (s''.heap.update S (Obj.mapSeq (·.push (.int (g n) t2)))).get? S = some (seqObj "list" (kA.push (.int (g n) t2)) c2) := upd_list pk (·.push (.int (g n) t2))
    have ek : (ms.map g).take (j + 1) = (ms.map g).take j ++ [g n] := by rw [List.take_add_one, List.getElem?_map, hN]; rfl
    have ea : (kA.push (Value.int (g n) t2)).toList = kA.toList ++ [Value.int (g n) t2] := by simp
    refine wpAny_bind (listUpdate_at pk rfl ?_ (Nat.le_trans lz room) (Nat.le_trans (Nat.le_of_eq (Array.size_push ..)) (by omega)))
    refine wpAny_pure ⟨rfl, Inv.mine (t' := s''.toks) J0 mK, ?_, kA.push (.int (g n) t2), c2, hc2, by rw [ea, ek]; exact ksk_snoc hk⟩
    show (s''.heap.update S _).get? a = _
    rw [Heap.get?_update_ne _ _ _ _ dS.symm]
    exact pa
  case done =>
    rintro s' ⟨I', ha', kA, e, hkA, hk⟩
    have hk2 : IntsAre kA.toList (ms.map g) := by
      have e3 : (ms.map g).take (0 + us.length) = ms.map g := List.take_of_length_le (by rw [List.length_map]; omega)
      rw [e3] at hk
      exact hk
    try dsimp only
    refine wpAny_bind (listItems_at hkA rfl ?_)
    exact sk_end I' mA mK dS ha' hkA hk2 ln room h
theorem sk_sort {n : Nat} (I : Inv X pins σ H s) (mA : FpOk X pins H a) (atD : s.heap.get? a = some (seqObj "list" us.toArray n)) (hi : IntsAre us ms) (room : us.length ≤ sizeLine)
    (turn : ∀ (ps : List (Addr × Obj)) (s' : Shared) (n : Int) (t : Tok), n ∈ ms → Inv X (pins ++ ps) σ H s' → wpAny (model X.prog X.w) A (call f [.int n t]) (EP X (pins ++ ps) σ fun v0 H' => v0 = .int (g n) ∧ H' = H) (fun _ _ => False) s')
    (h : ∀ s' out c, Inv X pins σ H s' → s'.heap.get? a = some (seqObj "list" out c) → KskOut b (ms.map g) us out.toList → P (.done (.ret .none)) s') :
    wpAny (model X.prog X.w) A (ksk_tree a f b) P E s := by
  obtain ⟨e1, at0⟩ : ∃ e1, (s.heap.update a (Obj.mapSeq fun _ => (#[] : Array Value))).get? a = some (seqObj "list" #[] e1) := upd_list atD fun _ => #[]
  have I1 : Inv X pins σ H { s with heap := s.heap.update a (Obj.mapSeq fun _ => (#[] : Array Value)) } := Inv.mine (t' := s.toks) I mA
  have I2 : Inv X pins σ H { s with heap := ((s.heap.update a (Obj.mapSeq fun _ => (#[] : Array Value))).push (seqObj "tuple" us.toArray 0)).push (seqObj "list" #[] 0) } := I1.kept (t' := s.toks) fun b o e => Heap.get?_push_of_some _ (Heap.get?_push_of_some _ e)
  have hlt : a < s.heap.objs.size := Heap.lt_size atD
  have szS : ((s.heap.update a (Obj.mapSeq fun _ => (#[] : Array Value))).push (seqObj "tuple" us.toArray 0)).objs.size = s.heap.objs.size + 1 := by rw [size_push', Heap.size_update]
  have mK : FpOk X pins H (s.heap.objs.size + 1) := I.fpOk (Nat.le_succ _) (I.hok.fresh (Nat.le_succ _))
  unfold ksk_tree
  refine wpAny_bind (listItems_at atD rfl ?_)
  refine wpAny_bind (listUpdate_at atD rfl ?_ (by rw [List.size_toArray]; exact room) (Nat.zero_le _))
  refine wpAny_bind (seqEpoch_at at0 rfl ?_)
  refine wpAny_bind (wpAny_newTuple ?_ (by show us.length ≤ _; exact room))
  refine wpAny_bind (wpAny_newList (wpAny_holding ?_) (Nat.zero_le _))
  show wpAny _ _ (ksk_rest a f b us.toArray e1 (.ref ((s.heap.update a (Obj.mapSeq fun _ => (#[] : Array Value))).push (seqObj "tuple" us.toArray 0)).objs.size)) _ _ { s with heap := ((s.heap.update a (Obj.mapSeq fun _ => (#[] : Array Value))).push (seqObj "tuple" us.toArray 0)).push (seqObj "list" #[] 0) }
  rw [szS]
  refine sk_rest I2 mA mK (Nat.ne_of_gt (Nat.lt_succ_of_lt hlt)) (Heap.get?_push_of_some _ (Heap.get?_push_of_some _ at0)) (by rw [← szS]; exact Heap.get?_push_size _ rfl) hi room turn h
theorem sk_sorted {l : Addr} {kws : List (Str × Value)} {Q : VK} (I : Inv X pins σ H s) (hL : SqL X.K H l (ms.map V.int))
    (ha1 : argsOk "sorted" ⟨[.ref l], kws⟩) (ha2 : ∀ y0, argsOk "list.sort" ⟨[.ref y0], kws⟩) (ht : ∀ y0, Builtin.«list.sort» ⟨[.ref y0], kws⟩ = ksk_tree y0 f b)
    (turn : ∀ (ps : List (Addr × Obj)) (s' : Shared) (n : Int) (t : Tok), n ∈ ms → Inv X (pins ++ ps) σ H s' → wpAny (model X.prog X.w) X.A.in1.in1 (call f [.int n t]) (EP X (pins ++ ps) σ fun v0 H' => v0 = .int (g n) ∧ H' = H) (fun _ _ => False) s')
    (h : ∀ (ns' : List Int) (D : Addr), ns'.Perm ms → ns'.Pairwise (fun y0 y => if b then g y ≤ g y0 else g y0 ≤ g y) → H D = none → Q (.ref D) (upd H D (.lst (ns'.map V.int)))) :
    wpAny (model X.prog X.w) X.A (call (.builtin "sorted") [.ref l] kws) (EP X pins σ Q) E s := by
  obtain ⟨us, rv, pl, lz⟩ := I.list hL
  have hi := rv.ints
  have ln := hi.length
  have room : us.length ≤ sizeLine := by rw [ln]; rw [List.length_map] at lz; exact lz
  refine call_function_entry_kw kind_sorted plain_sorted entry_sorted ha1 ?_; unfold Builtin.«sorted»; refine wpAny_bind (m := checkCount "sorted" 1 1 _) (wpAny_pure ?_)
  refine wpAny_bind (collect_list pl.isList ?_ room)
  refine wpAny_bind (wpAny_newList ?_ room)
  have n1 : ((s.heap.push (seqObj "list" #[] 0)).update s.heap.objs.size (Obj.mapSeq (· ++ us.toArray))).objs.size = s.heap.objs.size + 1 := by
    rw [Heap.size_update, size_push']
  have at1 : (((s.heap.push (seqObj "list" #[] 0)).update s.heap.objs.size (Obj.mapSeq (· ++ us.toArray))).push (seqObj "list" us.toArray 0)).get? (s.heap.objs.size + 1) = some (seqObj "list" us.toArray 0) := by
    rw [← n1]; exact Heap.get?_push_size _ rfl
  have kp : ∀ b o, s.heap.get? b = some o → (((s.heap.push (seqObj "list" #[] 0)).update s.heap.objs.size (Obj.mapSeq (· ++ us.toArray))).push (seqObj "list" us.toArray 0)).get? b = some o := fun b o q => by
    have hlt : b < s.heap.objs.size := Heap.lt_size q
    rw [Heap.get?_push_ne _ _ _ (by rw [n1]; exact Nat.ne_of_lt (Nat.lt_succ_of_lt hlt)), Heap.get?_update_ne _ _ _ _ (Nat.ne_of_lt hlt), Heap.get?_push_ne _ _ _ (Nat.ne_of_lt hlt)]
    exact q
  have mA : FpOk X pins H (s.heap.objs.size + 1) := I.fpOk (Nat.le_succ _) (I.hok.fresh (Nat.le_succ _))
  show wpAny _ _ _ _ _ { s with heap := ((s.heap.push (seqObj "list" #[] 0)).update s.heap.objs.size (Obj.mapSeq (· ++ us.toArray))).push (seqObj "list" us.toArray 0) }
  rw [n1]
  refine wpAny_bind (wpAny_holding (wpAny_call_entry_kw slot_list_sort ⟨_, at1, rfl⟩ entry_list_sort ?body (ha2 _)))
  case body =>
    have ht2 := ht (s.heap.objs.size + 1)
    show wpAny (model X.prog X.w) X.A.in1.in1 (Builtin.«list.sort» ⟨[.ref (s.heap.objs.size + 1)], kws⟩) _ _ _
    rw [ht2]
    refine sk_sort (s := { s with heap := ((s.heap.push (seqObj "list" #[] 0)).update s.heap.objs.size (Obj.mapSeq (· ++ us.toArray))).push (seqObj "list" us.toArray 0) }) (I.kept (t' := s.toks) kp) mA at1 hi room turn fun s' out c I' ho' ko => ⟨_, rfl, ?_⟩
    refine wpAny_pure ⟨_, rfl, ?_⟩
    obtain ⟨ps, hPm, n3, hSo⟩ := ko
    have pr : ∀ p, p ∈ (ms.map g).zip us → p.1 = g (numOf p.2) ∧ p.2 ∈ us := by
      rw [← hi.nums, List.map_map, List.zip_map_left]
      intro p hPm
      obtain ⟨⟨u0, v0⟩, hQ, rfl⟩ := List.mem_map.mp hPm
      have q1 : u0 = v0 ∧ u0 ∈ us := mem_zip_self hQ
      refine ⟨?_, ?_⟩
      · show g (numOf u0) = g (numOf v0)
        rw [q1.1]
      · show v0 ∈ us
        rw [← q1.1]
        exact q1.2
    have isI : IntsAre (ps.map Prod.snd) ((ps.map Prod.snd).map numOf) := intsAre_map _ fun v0 hV => by
      obtain ⟨p, hp2, rfl⟩ := List.mem_map.mp hV
      exact hi.all _ (pr p (hPm.mem_iff.mp hp2)).2
    have isP : ((ps.map Prod.snd).map numOf).Perm ms := by
      have q1 := (hPm.map Prod.snd).map numOf
      rw [List.map_snd_zip (by rw [List.length_map]; omega), hi.nums] at q1
      exact q1
    have isO : ((ps.map Prod.snd).map numOf).Pairwise (fun y0 y => if b then g y ≤ g y0 else g y0 ≤ g y) := by
      rw [List.pairwise_map, List.pairwise_map]
      refine hSo.imp_of_mem fun {p q} hp2 hq2 hr => ?_
      have hr2 : if b then q.1 ≤ p.1 else p.1 ≤ q.1 := hr
      rw [(pr p (hPm.mem_iff.mp hp2)).1, (pr q (hPm.mem_iff.mp hq2)).1] at hr2
      exact hr2
    rw [← n3] at isI isP isO
    refine ⟨.ref _, upd H (s.heap.objs.size + 1) (.lst ((out.toList.map numOf).map V.int)), ?_, rfl, h _ _ isP isO mA.1⟩
    have hlo : (out.toList.map numOf).length ≤ sizeLine := by rw [isP.length_eq]; rw [List.length_map] at lz; exact lz
    have ho2 : s'.heap.get? (s.heap.objs.size + 1) = some (seqObj "list" out.toList.toArray c) := by rw [Array.toArray_toList]; exact ho'
    exact Inv.adopt I' mA ho2 (vals_of_ints isI) (by rw [List.length_map]; exact hlo)
end
end KL

set_option Elab.async false
set_option linter.all false
set_option autoImplicit false
set_option maxRecDepth 100000
set_option maxHeartbeats 2000000
namespace KL
open PySem PySem.Spec PyProof.Rows L2
/-! ### sorted(xs, key=lambda p: .., reverse=True) -/
structure LamC (K : PySem.W.Frag) (mg : Str → Option Value) (base : Heap) (cdv : Value) (P : Addr) : Prop where
  ex : ∃ c0, cdv = .ref c0 ∧ PySem.W.codeHdIn K c0 P = true
  bm : BMain mg base
def tSK (K : PySem.W.Frag) (P : Addr) (lp : Pos) (lq : Str) (i : Nat) (ta tb : TE) : TE := fun σ H Q => ta σ H fun v H1 => ∃ (l : Addr) (ms : List Int) (g : Int → Int) (vq : V), v = .ref l ∧ SqL K H1 l (ms.map V.int) ∧ σ[i]? = some (some vq) ∧ TabOk H1 P lp lq ∧
  ∀ H2, SameP P H1 H2 → TabOk H2 P lp lq → (∀ n ∈ ms, tb [some (.int n), some vq] H2 fun v H' => v = .int (g n) ∧ H' = H2) ∧
    ∀ (ns : List Int) (D : Addr), ns.Perm ms → ns.Pairwise (fun x y => g y ≤ g x) → H2 D = none → Q (.ref D) (upd H2 D (.lst (ns.map V.int)))
theorem SameP.seq {K : PySem.W.Frag} {P : Addr} {H H' : Hp} {a : Addr} {xs : List V} {ps : Array Value} (S : SameP P H H') (hP : H P = some (.tbl ps)) (h : SqL K H a xs) : SqL K H' a xs := by
  rcases h with (h | ⟨o, h⟩) | h
  · exact .inl (.inl (S _ _ (by rintro rfl; rw [hP] at h; cases h) h))
  · exact .inl (.inr ⟨o, S _ _ (by rintro rfl; rw [hP] at h; cases h) h⟩)
  · exact .inr h
theorem bt_sorted : bootBuiltins "sorted" = some (.builtin "sorted") := by decide +kernel
theorem pe_sortedKey {X : Cx} {k : Nat} {e : Expr} {ta tb : TE} {params : Arguments} {body : Expr} {scope : Scope} {lp p1 bp kp1 kp2 pos : Pos} {j : Nat} {p q : Str} {P : Addr} {lq : Str} {cdv : Value} {i : Nat}
    (hr : Room k X.A) (hg : Gl X "sorted") (hm : X.mg "sorted" = none) (ha : PE X e ta) (C : LamC X.K X.mg X.base cdv P)
    (hb : ∀ (A : Around) (s : Shared) (H : Hp) (L f c c' : Addr), PE (lamCx X A p q s H (PySem.W.envX (X.env.qual ++ "<lambda>") scope L f (.ref c') [(q, c)])) body tb)
    (hcode : X.env.code = cdv := by rfl) (hlq : X.env.qual ++ "<lambda>" = lq := by rfl) (hn : scope.names = [(p, .local), (q, .free)] := by rfl) (hpq : (q == p) = false := by decide) (hk : scope.kind = .function := by rfl) (hco : scope.isCoroutine = false := by rfl) (hgen : scope.isGenerator = false := by rfl)
    (hi : X.N[i]? = some q := by rfl) (hv : X.env.scope.names.lookup q = some .cell := by rfl) (hdf : defaultsOf params X.env = ([], []) := by rfl)
    (hbind : ∀ c c' pm ctv u, bindArgs (PySem.W.kla_fn "<lambda>" (X.env.qual ++ "<lambda>") params body scope [(q, c)] pm (.ref c') ctv) ⟨[u], []⟩ = pure [(p, u)] := by intro _ _ _ _ _; rfl)
    (h1 : starEach [e] X.env = [(false, eval e X.env)] := by rfl) :
    PE X (.Call (.Name "sorted" p1) [e] [⟨some "key", .Lambda params body scope lp, kp1⟩, ⟨some "reverse", .Constant (.bool true) j bp, kp2⟩] pos) (tSK X.K P lp lq i ta tb) := by
  subst hlq
  intro pins s σ H Q I h
  refine wpAny_Call_Name_kw (ld_blt I hg hm bt_sorted ?_ (by decide) (by decide))
  refine callWith_kw ?_ (by rw [h1]; rfl) (by rw [h1]; rfl)
  have h' : (tCons ta tNil) σ H (fun vs H1 => match vs with
    | [v] => ∃ (l : Addr) (ms : List Int) (g : Int → Int) (vq : V), v = .ref l ∧ SqL X.K H1 l (ms.map V.int) ∧ σ[i]? = some (some vq) ∧ TabOk H1 P lp (X.env.qual ++ "<lambda>") ∧
      ∀ H2, SameP P H1 H2 → TabOk H2 P lp (X.env.qual ++ "<lambda>") → (∀ n ∈ ms, tb [some (.int n), some vq] H2 fun v H' => v = .int (g n) ∧ H' = H2) ∧
        ∀ (ns : List Int) (D : Addr), ns.Perm ms → ns.Pairwise (fun x y => g y ≤ g x) → H2 D = none → Q (.ref D) (upd H2 D (.lst (ns.map V.int)))
    | _ => False) := h
  refine thn ((pa_cons ha pa_nil h1) pos pins s σ H _ I h') fun us s1 ⟨vs, H1, I1, rv, hh⟩ => ?_
  match vs, us, rv, hh with
  | [], _, _, hh => exact hh.elim
  | _ :: _ :: _, _, _, hh => exact hh.elim
  | [v], _, .cons r1 .nil, hh =>
    obtain ⟨l, ms, g, vq, rfl, hl, hσ, ht, hq⟩ := hh
    cases r1
    obtain ⟨c0, hc0, hhd⟩ := C.ex
    obtain ⟨c, hc⟩ := I1.ok.has q (.inl hv)
    have hclo : closureFor scope X.env = pure [(q, c)] := by
      rw [closure_ok fun y hy e => ?_]
      · rw [hn]
        show pure [(q, (X.env.cells.lookup q).getD 0)] = _
        rw [hc]
        rfl
      · rw [hn] at hy
        rcases List.mem_cons.mp hy with z | hy
        · rw [z] at e; cases e
        · rw [List.mem_singleton.mp hy]; exact ⟨c, hc⟩
    show wpAny _ _ (evalAll ((do let v ← eval (.Lambda params body scope lp) X.env; standAt pos; pure v) :: (backToKw pos (keywordEach [⟨some "reverse", .Constant (.bool true) j bp, kp2⟩] X.env)).map (·.2))) _ _ s1
    refine wpAny_evalAll_cons (wpAny_bind (lam_make I1 (hcode.trans hc0) (PySem.W.codeHd_of_K I1.ok.mod.kin hhd) ht C.bm hclo hdf fun f c' pm ctv H2 s2 I2 S2 ht2 fr hf0 hfs hfo hrec hext => wpAny_bind (wpAny_standAt (wpAny_pure ?_))))
    obtain ⟨hkey, hfin⟩ := hq H2 S2 ht2
    have ff : FpOk X pins H2 f := I1.fpOk hfs hf0
    have J2 : Inv X (pins ++ [(f, PySem.W.kla_obj "<lambda>" (X.env.qual ++ "<lambda>") params body scope [(q, c)] pm c' ctv)]) σ H2 s2 := I2.pins_of fun z hz => by
      rcases List.mem_append.mp hz with y | y
      · exact I2.pin z (List.mem_append_right _ y)
      · rw [List.mem_singleton.mp y]
        exact pinOk ff hfo fun v w => by cases w
    refine thn ((pk_cons pe_bl pk_nil) pos _ s2 σ H2 (fun vs H3 => vs = [V.bl true] ∧ H3 = H2) J2 ⟨rfl, rfl⟩) fun us s3 ⟨vs, H3, I3, rv, e1, e2⟩ => ?_
    subst e1 e2
    match us, rv with
    | _, .cons r2 .nil =>
      cases r2
      have hh : X.A.handled = none := hr.hd
      refine thn (sk_sorted (b := true) (g := g) (f := .ref f) I3 (SameP.seq S2 ht.choose_spec.1 hl) (ksk_s2 _ _ _) (fun x => ksk_l2 _ _ _) (fun x => ksk_t2 f x true) (fun ps s' n t hn' J => ?_) fun ns D h2 h3 h4 => hfin ns D h2 (h3.imp fun {x y} z => by simpa using z) h4) fun u s' ⟨v, H', J, rj, qj⟩ => ⟨v, H', J.pins_of fun z hz => J.pin z (List.mem_append_right _ (List.mem_append_left _ hz)), rj, qj⟩
      have fo := (J.pin (f, _) (List.mem_append_right _ (List.mem_append_left _ (List.mem_append_right _ (.head _))))).1
      exact lam_call (p := p) (q := q) (x := .int n) (vq := vq) (i := i) J rfl hh (show X.A.depth < recursionLimit from hr.depth) fo (J.hok c' _ hext).1 hn hpq hk hco hgen (hbind c c' pm ctv _) hc hi hσ hv ⟨t, rfl⟩ (fun L => hb _ _ _ L f c c') (hkey n hn')
end KL

set_option Elab.async false
set_option linter.all false
set_option autoImplicit false
set_option maxRecDepth 100000
set_option maxHeartbeats 2000000
namespace KL
open PySem PySem.Spec PyProof.Rows L2
/-! ### min of a list of tuples of ints -/
theorem lex_irr : ∀ a : List Int, HT.lexLt a a = false
  | [] => rfl
  | x :: a => by rw [HT.lexLt_cons, if_pos rfl]; exact lex_irr a
theorem lex_trans : ∀ {a b c : List Int}, HT.lexLt a b = true → HT.lexLt b c = true → HT.lexLt a c = true
  | [], [], _, h, _ => by cases h
  | [], _ :: _, [], _, h => by cases h
  | [], _ :: _, _ :: _, _, _ => rfl
  | _ :: _, [], _, h, _ => by cases h
  | _ :: _, _ :: _, [], _, h => by cases h
  | x :: a, y :: b, z :: c, h, h' => by
    rw [HT.lexLt_cons] at h h' ⊢
    by_cases e : x = y
    · subst e
      rw [if_pos rfl] at h
      by_cases e' : x = z
      · rw [if_pos e'] at h' ⊢
        exact lex_trans h h'
      · rw [if_neg e'] at h' ⊢
        exact h'
    · rw [if_neg e] at h
      have h1 : x < y := of_decide_eq_true h
      by_cases e' : y = z
      · rw [if_neg (by omega)]
        exact decide_eq_true (by omega)
      · rw [if_neg e'] at h'
        have h2 : y < z := of_decide_eq_true h'
        rw [if_neg (by omega)]
        exact decide_eq_true (by omega)
theorem best_le (bt : Nat → Nat → Bool) : ∀ k, argBest bt k ≤ k
  | 0 => Nat.le_refl _
  | k + 1 => by
    unfold argBest
    split
    · exact Nat.le_refl _
    · exact Nat.le_succ_of_le (best_le bt k)
theorem best_of {bt : Nat → Nat → Bool} (irr : ∀ i, bt i i = false) (tr : ∀ i j k, bt i j = true → bt j k = true → bt i k = true) : ∀ k j, j ≤ k → bt j (argBest bt k) = false
  | 0, j, h => by
    obtain rfl : j = 0 := by omega
    exact irr 0
  | k + 1, j, h => by
    unfold argBest
    by_cases c : bt (k + 1) (argBest bt k) = true
    · rw [if_pos c]
      rcases Nat.lt_or_ge j (k + 1) with d | d
      · cases q : bt j (k + 1) with
        | false => rfl
        | true =>
          have := best_of irr tr k j (by omega)
          rw [tr _ _ _ q c] at this
          cases this
      · obtain rfl : j = k + 1 := by omega
        exact irr _
    · rw [if_neg c]
      rcases Nat.lt_or_ge j (k + 1) with d | d
      · exact best_of irr tr k j (by omega)
      · obtain rfl : j = k + 1 := by omega
        cases q : bt (k + 1) (argBest bt k) with
        | false => rfl
        | true => exact absurd q c
section
variable {prog : Program} {w : World} {A : Around} {I : Addr} {fp wr : List Addr} {n : Nat} {P : Nat → Value → Prop} {St : Nat → Heap → Prop} {bt : Nat → Nat → Bool} {R : Result → Shared → Prop} {S : Addr}
/-- two of those that are walked are compared, whatever the turn -/
def CmpIn (prog : Program) (w : World) (A : Around) (P : Nat → Value → Prop) (St : Nat → Heap → Prop) (bt : Nat → Nat → Bool) : Prop :=
  ∀ (k i j : Nat) (u v : Value) (s : Shared) (Q E : Value → Shared → Prop), St k s.heap → P i u → P j v → Q (.bool (bt i j)) s → wpAny (model prog w) A (richCompare .Lt u v) Q E s
theorem min_turns (W : Walks prog w A.in1 I fp wr n P St) (hc : CmpIn prog w A.in1 P St bt) (nS : S ∉ fp) : ∀ (m j : Nat) (s : Shared) (v : Value) (c : Nat), n = j + 1 + m → St (j + 1) s.heap → P (argBest bt j) v → s.heap.get? S = some (seqObj "list" #[v, v] c) →
    (∀ u h tk, P (argBest bt (n - 1)) u → (∀ b o, b ∉ wr → b ≠ S → s.heap.get? b = some o → h.get? b = some o) → R (.ok (.ret u)) { s with heap := h, toks := tk }) → codeAny (model prog w) A (.builtin "min.loop" ⟨[.ref I, .none, .ref S], []⟩) R s := by
  have wS : S ∉ wr := fun h => nS (W.sub S h)
  have nm : (toString "min" ++ toString ".loop" : String) = "min.loop" := by decide
  have offS : ∀ (h : Heap) (g : Obj → Obj) (b : Addr) (o : Obj), b ≠ S → h.get? b = some o → (h.update S g).get? b = some o := fun h g b o d e => by rw [Heap.get?_update_other _ _ (Ne.symm d)]; exact e
  have offF : ∀ (h : Heap) (g : Obj → Obj), ∀ b ∈ fp, ∀ o, h.get? b = some o → (h.update S g).get? b = some o := fun h g b hb o e => offS h g b o (fun z => nS (z ▸ hb)) e
  intro m
  induction m with
  | zero =>
    intro j s v c e st hv hS fin
    refine codeAny_builtin F.entry_min_loop ?_; rw [Around.under_plainId F.plain_min_loop _]
    show wpAny _ A.in1 (seqItems? (.ref S) >>= _) _ _ s; refine wpAny_bind (wpAny_seqItems hS rfl ?_); show wpAny _ A.in1 (tryCatch (pyNext (.ref I)) _ >>= _) _ _ s
    have en : j + 1 = n := by omega
    refine wpAny_bind (wpAny_tryCatch (W.done s _ _ (by rw [← en]; exact st) fun h1 tk k1 => ?_))
    show wpAny _ A.in1 (updateSeq S (fun _ => #[]) >>= _) _ _ _; refine wpAny_bind (wpAny_updateSeq (k1 S _ wS hS) rfl (wpAny_bind (wpAny_letGo (wpAny_pure ?_))))
    exact fin v _ tk (by rw [← en]; exact hv) fun b o d1 d2 q => offS _ _ b o d2 (k1 b o d1 q)
  | succ m ih =>
    intro j s v c e st hv hS fin
    refine codeAny_builtin F.entry_min_loop ?_; rw [Around.under_plainId F.plain_min_loop _]
    show wpAny _ A.in1 (seqItems? (.ref S) >>= _) _ _ s; refine wpAny_bind (wpAny_seqItems hS rfl ?_); show wpAny _ A.in1 (tryCatch (pyNext (.ref I)) _ >>= _) _ _ s
    refine wpAny_bind (wpAny_tryCatch (W.item (j + 1) s _ _ (by omega) st fun u h1 tk hu st1 k1 => ?_))
    have hS1 := k1 S _ wS hS
    show wpAny _ A.in1 (tryCatch (holding [u, u] (richCompare .Lt u v >>= _)) _ >>= _) _ _ _
    refine wpAny_bind (wpAny_tryCatch (wpAny_holding (wpAny_bind (hc (j + 1 + 1) (j + 1) (argBest bt j) u v _ _ _ st1 hu hv ?_))))
    refine wpAny_bind (wpAny_holding (wpAny_truthy_bool (wpAny_bind (wpAny_letGo (wpAny_pure ?_)))))
    by_cases q : bt (j + 1) (argBest bt j) = true
    · rw [q]; simp only [if_true]
      refine wpAny_bind (wpAny_updateSeq hS1 rfl (wpAny_bind (wpAny_letGo ?_)))
      rw [nm]
      refine wpAny_pure ⟨plainId_quiet F.plain_min_loop _, ih (j + 1) _ u _ (by omega) (W.frame _ _ _ st1 (offF _ _)) (by unfold argBest; rw [if_pos q]; exact hu) (Heap.get?_update_self _ hS1 rfl) fun u2 h2 tk2 p2 k2 => fin u2 h2 tk2 p2 fun b o d1 d2 x => k2 b o d1 d2 (offS _ _ b o d2 (k1 b o d1 x))⟩
    · rw [Bool.not_eq_true] at q
      rw [q]; simp only [Bool.false_eq_true, if_false]
      refine wpAny_bind (wpAny_letGo ?_)
      rw [nm]
      exact wpAny_pure ⟨plainId_quiet F.plain_min_loop _, ih (j + 1) _ v c (by omega) st1 (by unfold argBest; rw [q, if_neg Bool.false_ne_true]; exact hv) hS1 fun u2 h2 tk2 p2 k2 => fin u2 h2 tk2 p2 fun b o d1 d2 x => k2 b o d1 d2 (k1 b o d1 x)⟩
theorem min_begins (W : Walks prog w A.in1 I fp wr n P St) (hc : CmpIn prog w A.in1 P St bt) (nS : S ∉ fp) (hn : 0 < n) {s : Shared} {c : Nat} (st : St 0 s.heap) (hS : s.heap.get? S = some (seqObj "list" #[] c))
    (fin : ∀ u h tk, P (argBest bt (n - 1)) u → (∀ b o, b ∉ wr → b ≠ S → s.heap.get? b = some o → h.get? b = some o) → R (.ok (.ret u)) { s with heap := h, toks := tk }) : codeAny (model prog w) A (.builtin "min.loop" ⟨[.ref I, .none, .ref S], []⟩) R s := by
  have wS : S ∉ wr := fun h => nS (W.sub S h)
  have nm : (toString "min" ++ toString ".loop" : String) = "min.loop" := by decide
  refine codeAny_builtin F.entry_min_loop ?_; rw [Around.under_plainId F.plain_min_loop _]
  show wpAny _ A.in1 (seqItems? (.ref S) >>= _) _ _ s; refine wpAny_bind (wpAny_seqItems hS rfl ?_); show wpAny _ A.in1 (tryCatch (pyNext (.ref I)) _ >>= _) _ _ s
  refine wpAny_bind (wpAny_tryCatch (W.item 0 s _ _ hn st fun u h1 tk hu st1 k1 => ?_))
  have hS1 := k1 S _ wS hS
  show wpAny _ A.in1 (updateSeq S (fun _ => #[u, u]) >>= _) _ _ _
  refine wpAny_bind (wpAny_updateSeq hS1 rfl ?_)
  rw [nm]
  exact wpAny_pure ⟨plainId_quiet F.plain_min_loop _, min_turns W hc nS (n - 1) 0 _ u _ (by omega) (W.frame _ _ _ st1 fun b hb o e => by rw [Heap.get?_update_other _ _ (fun z => nS (by rw [z]; exact hb))]; exact e) hu (Heap.get?_update_self _ hS1 rfl)
    fun u2 h2 tk2 p2 k2 => fin u2 h2 tk2 p2 fun b o d1 d2 x => k2 b o d1 d2 (by rw [Heap.get?_update_other _ _ (Ne.symm d2)]; exact k1 b o d1 x)⟩
theorem min_call {E : Value → Shared → Prop} {s : Shared} {x : Value} {Q : Value → Shared → Prop}
    (h : wpAny (model prog w) A.in1 (pyIter x) (fun it s2 => ∃ I fp wr n P St bt, it = .ref I ∧ Walks prog w A.in1 I fp wr n P St ∧ St 0 s2.heap ∧ (∀ b ∈ fp, b < s2.heap.objs.size) ∧ 0 < n ∧ CmpIn prog w A.in1 P St bt ∧
      ∀ u h tk, P (argBest bt (n - 1)) u → (∀ b o, b ∉ wr → s2.heap.get? b = some o → h.get? b = some o) → Q u { s2 with heap := h, toks := tk }) E s) : wpAny (model prog w) A (call (.builtin "min") [x]) Q E s := by
  have nm : (toString "min" ++ toString ".loop" : String) = "min.loop" := by decide
  refine call_function_tree F.kind_min F.plain_min F.entry_min (F.args_min1 _) ?_; show wpAny _ A.in1 (Builtin.Builtins.bindParams "min" ["key", "default"] 0 ⟨[], []⟩ >>= _) _ _ s
  refine wpAny_bind (wpAny_of_eq (show Builtin.Builtins.bindParams "min" ["key", "default"] 0 ⟨[], []⟩ = pure [none, none] from rfl) (wpAny_bind (wpAny_pure ?_)))
  refine wpAny_bind (wpAny_mono h (fun it s2 ⟨I, fp, wr, n, P, T, bt, e, W, st, lt, hn, hc, fin⟩ => ?_) fun _ _ e => e)
  subst e
  refine wpAny_bind (wpAny_newObj_type ?_)
  rw [nm]
  exact wpAny_pure ⟨plainId_quiet F.plain_min_loop _, min_begins W hc (fun z => Nat.lt_irrefl _ (lt _ z)) hn (W.frame _ _ _ st fun b _ o e => Heap.get?_push_of_some _ e) (Heap.get?_push_size _ rfl) fun u h tk p k => fin u h tk p fun b o d e => k b o d (Nat.ne_of_lt (Heap.lt_size e)) (Heap.get?_push_of_some _ e)⟩
end
/-- min(xs) of a list of tuples of ints: one of the least -/
def rMinT (K : PySem.W.Frag) : List V → Hp → VK → Prop := fun vs H Q => ∃ (a : Addr) (ts : List Addr) (xss : List (List Int)), vs = [V.ref a] ∧ SqL K H a (ts.map V.ref) ∧ ts.length = xss.length ∧ 0 < ts.length ∧
  (∀ (i : Nat) (t : Addr) (x : List Int), ts[i]? = some t → xss[i]? = some x → H t = some (.tup (x.map V.int))) ∧ ∀ (i : Nat) (t : Addr) (x : List Int), ts[i]? = some t → xss[i]? = some x → (∀ y ∈ xss, HT.lexLt y x = false) → Q (.ref t) H
theorem isTup_keep {h h' : Heap} {a : Addr} {xs : Array Value} (e : IsTup h a xs) (k : ∀ o, h.get? a = some o → h'.get? a = some o) : IsTup h' a xs := by
  obtain ⟨o, e1, e2⟩ := e
  exact ⟨o, k o e1, e2⟩
theorem cr_minT {X : Cx} {k : Nat} (hr : Room k X.A) : CallR X (.builtin "min") (rMinT X.K) := by
  intro pins s σ H vs us Q I r h
  obtain ⟨a, ts, xss, rfl, hs, hlen, hpos, htup, q⟩ := h
  obtain ⟨its, rv, hl, hz⟩ := I.list hs
  rw [Vals.ref1 r]
  have li := rv.length
  rw [List.length_map] at li
  -- the items are the tuples' addresses
  have item : ∀ (i : Nat) (v : Value), its[i]? = some v → ∃ t x, ts[i]? = some t ∧ xss[i]? = some x ∧ v = .ref t := fun i v e => by
    have lt := (List.getElem?_eq_some_iff.mp e).1
    obtain ⟨t, et⟩ : ∃ t, ts[i]? = some t := ⟨_, List.getElem?_eq_getElem (by omega)⟩
    obtain ⟨x, ex⟩ : ∃ x, xss[i]? = some x := ⟨_, List.getElem?_eq_getElem (by omega)⟩
    obtain ⟨u, eu, ru⟩ := rv.get (show (ts.map V.ref)[i]? = some (V.ref t) by rw [List.getElem?_map, et]; rfl)
    rw [e] at eu
    cases eu
    cases ru
    exact ⟨t, x, et, ex, rfl⟩
  let G : Heap → Prop := fun h => ∀ (i : Nat) (t : Addr) (x : List Int), ts[i]? = some t → xss[i]? = some x → ∃ us : List Value, IsTup h t us.toArray ∧ IntsAre us x
  have g0 : G s.heap := fun i t x et ex => by
    obtain ⟨z, us, r2, p2⟩ := I.hok t _ (htup i t x et ex)
    exact ⟨us, p2, intsAre_of r2⟩
  have gk : ∀ h h' : Heap, G h → (∀ b ∈ ts, ∀ o, h.get? b = some o → h'.get? b = some o) → G h' := fun h h' g k i t x et ex => by
    obtain ⟨us, p, r2⟩ := g i t x et ex
    exact ⟨us, isTup_keep p (k t (List.mem_of_getElem? et)), r2⟩
  have tlt : ∀ b ∈ ts, b < s.heap.objs.size := fun b hb => by
    obtain ⟨i, hi, rfl⟩ := List.getElem_of_mem hb
    obtain ⟨us, ⟨o, e, _⟩, _⟩ := g0 i _ _ (List.getElem?_eq_getElem hi) (List.getElem?_eq_getElem (by omega : i < xss.length))
    exact Heap.lt_size e
  have alt : a < s.heap.objs.size := by obtain ⟨_, e, _⟩ := hl.isList; exact Heap.lt_size e
  have hh : X.A.in1.handled = none := hr.hd
  refine min_call (wpAny_pyIter_list hl.isList ?_)
  have W := Walks.list (prog := X.prog) (w := X.w) (A := X.A.in1) hh s.heap.objs.size a (Nat.ne_of_lt alt) its.toArray
  let bt : Nat → Nat → Bool := fun i j => HT.lexLt (xss.getD i []) (xss.getD j [])
  refine ⟨s.heap.objs.size, [s.heap.objs.size, a] ++ ts, [s.heap.objs.size], its.toArray.size, fun i v => its.toArray[i]? = some v, fun i h => (h.IsListIter s.heap.objs.size a i ∧ h.IsList a its.toArray) ∧ G h, bt, rfl, ⟨fun b hb => List.mem_append_left _ (W.sub b hb), fun i h h' st k => ⟨W.frame i h h' st.1 fun b hb => k b (List.mem_append_left _ hb), gk h h' st.2 fun b hb => k b (List.mem_append_right _ hb)⟩, ?_, ?_, ?_⟩, ?_, ?_, ?_, ?_, ?_⟩
  · intro i s1 Q1 E1 hi st fin
    refine W.item i s1 Q1 E1 hi st.1 fun v h1 tk p st1 k1 => fin v h1 tk p ⟨st1, gk _ _ st.2 fun b hb o e => k1 b o (fun z => ?_) e⟩ k1
    rw [List.mem_singleton.mp z] at hb
    exact absurd (tlt _ hb) (Nat.lt_irrefl _)
  · intro s1 Q1 E1 st fin
    exact W.done s1 Q1 E1 st.1 fin
  · intro i s1 Q1 E1 st fin
    exact W.self i s1 Q1 E1 st.1 fin
  · refine ⟨⟨⟨_, Heap.get?_push_size _ rfl, rfl, rfl⟩, hl.isList.push _⟩, gk _ _ g0 fun b _ o e => Heap.get?_push_of_some _ e⟩
  · intro b hb
    show b < (s.heap.push _).objs.size
    rw [Heap.size_push]
    rcases List.mem_append.mp hb with z | z
    · rcases List.mem_cons.mp z with z | z
      · rw [z]; exact Nat.lt_succ_self _
      · rw [List.mem_singleton.mp z]; exact Nat.lt_succ_of_lt alt
    · exact Nat.lt_succ_of_lt (tlt b z)
  · rw [List.size_toArray]; omega
  · intro k i j u v s1 Q1 E1 st hu hv fin
    obtain ⟨t, x, et, ex, rfl⟩ := item i u (by simpa using hu)
    obtain ⟨t', x', et', ex', rfl⟩ := item j v (by simpa using hv)
    obtain ⟨us1, p1, i1⟩ := st.2 i t x et ex
    obtain ⟨us2, p2, i2⟩ := st.2 j t' x' et' ex'
    have e1 : xss.getD i [] = x := by rw [List.getD_eq_getElem?_getD, ex]; rfl
    have e2 : xss.getD j [] = x' := by rw [List.getD_eq_getElem?_getD, ex']; rfl
    have fin' : Q1 (.bool (HT.lexLt x x')) s1 := by rw [← e1, ← e2]; exact fin
    have hu : X.A.in1.units < cLine := by have := hr.un; show X.A.units + 1 < cLine; omega
    exact (HT.lt_tupInts (A := X.A.in1) p1 p2 (by simpa using i1) (by simpa using i2) hu fin' : wpAny (model X.prog X.w) X.A.in1 (compareOp .Lt (.ref t) (.ref t')) Q1 E1 s1)
  · intro u h1 tk hu k1
    have bl := best_le bt (its.toArray.size - 1)
    obtain ⟨t, x, et, ex, rfl⟩ := item _ u (by simpa using hu)
    refine ⟨.ref t, H, I.kept (t' := tk) fun b o e => k1 b o (fun z => ?_) (Heap.get?_push_of_some _ e), rfl, q _ t x et ex fun y hy => ?_⟩
    · rw [List.mem_singleton.mp z] at e
      exact absurd (Heap.lt_size e) (Nat.lt_irrefl _)
    · obtain ⟨j, hj, rfl⟩ := List.getElem_of_mem hy
      have b := best_of (bt := bt) (fun i => lex_irr _) (fun i j k => lex_trans) (its.toArray.size - 1) j (by rw [List.size_toArray]; omega)
      have e1 : xss.getD (argBest bt (its.toArray.size - 1)) [] = x := by rw [List.getD_eq_getElem?_getD, List.size_toArray, ex]; rfl
      have e2 : xss.getD j [] = xss[j] := by rw [List.getD_eq_getElem?_getD, List.getElem?_eq_getElem hj]; rfl
      rw [← e1, ← e2]
      exact b
end KL

set_option Elab.async false
set_option linter.all false
set_option autoImplicit false
set_option maxRecDepth 100000
set_option maxHeartbeats 2000000
namespace KL
open PySem PySem.Spec PyProof.Rows L2
open PySem.W (WData Codec OpenSpec Well WellAll ReadsW ReadsAllW)
/-! ### the call of the row's def, a def's table laid aside -/
theorem call_tab {Pr : Program} {w : World} {K : PySem.W.Frag} {mg mb : Str → Option Value} {CX : CXT} {k : Nat} {fa c P : Addr} {fd : FuncData} {ps : List Str} {sp : Sp} {s1 : Shared} {vals : List Value} {ds : List WData} {R : PySem.W.WRecords} {cl : Str → Option Addr} {d0 : WData}
    (KX : K.In s1.heap) (hns : s1.heap.Ns mainGlobals mg) (hb : s1.heap.Ns builtinsNs mb) (hbb : ∀ x : Str, x ≠ "__name__" → mb x = bootBuiltins x) (hlim : s1.heap.NoLimit) (hg : s1.gens = #[]) (hB : BMain mg s1.heap) (hC : PySem.W.CodeHd s1.heap c P) (hP : s1.heap.get? P = some (PySem.W.tabObj #[])) (hKP : K.lookup P = none)
    (hwl : WellAll w.params s1.heap vals ds) (hpl : plWs ds = true) (hwt : ∀ d ∈ ds, d.weight ≤ 1048576) (hr : Room k callerA)
    (F : ∀ base : Heap, K.In base → base.Ns mainGlobals mg → BMain mg base → FnOk Pr w K mg base CX k fa fd ps sp) (hbind : ∀ (s : Shared) (us : List Value), us.length = ps.length → BindsTo s fd ⟨us, []⟩ (ps.zip us)) (hlen : ds.length = ps.length)
    (hsp : ∀ (H H1 : Hp) (xs : List V), OnlyF H → (∀ b o, H b = some o → H1 b = some o) → H1 P = some (.tbl #[]) → DwAll K H xs ds → sp xs H1 (fun v H' => Dw K H' v d0) fun _ _ _ => False)
    (hCX : ∀ H e s', CX [] H s1 (fun _ _ _ => False) e s' → False) :
    codeAny (model Pr w) callerA (.call (.ref fa) ⟨vals, []⟩) (fun r s' => ∃ u as, r = .ok (.ret u) ∧ ReadsW R cl s'.heap u d0 as ∧ OldK s1.heap s'.heap ∧ s'.os = s1.os ∧ AllBare s'.gens) s1 := by
  obtain ⟨A, ho, ar⟩ := area_all ds vals hwl hpl hwt
  have only : OnlyF (argH K s1.heap A) := argH_only ar
  have hok : HOk Pr w (argH K s1.heap A) s1.heap := argH_ok ar
  have args := dw_all KX ar ds vals hwl hpl ho
  have rel := vals_toV ho
  -- an argument's object is a list or a tuple
  have seqs : ∀ b u, argH K s1.heap A b = some u → K.lookup b = none ∧ ∃ o vs n, s1.heap.get? b = some o ∧ o.data = .seq vs n := fun b u q => by
    obtain ⟨h1, vs, _, _, ⟨e, _⟩ | ⟨e, _⟩⟩ := argH_is ar q
    · exact ⟨h1, _, _, _, e, rfl⟩
    · exact ⟨h1, _, _, _, e, rfl⟩
  generalize argH K s1.heap A = H at only hok args seqs
  have free : ∀ b o, s1.heap.get? b = some o → (∀ vs n, o.data ≠ .seq vs n) → H b = none := fun b o e n => by
    cases q : H b with
    | none => rfl
    | some u =>
      obtain ⟨_, o2, vs, m, e2, d⟩ := seqs b u q
      rw [e] at e2; cases e2
      exact absurd d (n _ _)
  have hHP : H P = none := free P _ hP fun _ _ z => by cases z
  have up : ∀ b o, H b = some o → upd H P (.tbl #[]) b = some o := fun b o e => by rw [upd_ne (ne_of_none e hHP)]; exact e
  have hok1 : HOk Pr w (upd H P (.tbl #[])) s1.heap := fun b o e => by
    by_cases q : b = P
    · subst q
      rw [upd_same] at e; cases e
      exact hP
    · rw [upd_ne q] at e
      exact (hok b o e).stay (fun _ _ _ h => h) (fun d h => up d _ h) fun d xs h => up d _ h
  have free1 : ∀ b o, s1.heap.get? b = some o → (∀ vs n, o.data ≠ .seq vs n) → b ≠ P → upd H P (.tbl #[]) b = none := fun b o e n d => by rw [upd_ne d]; exact free b o e n
  have toB : ∀ b o, s1.heap.get? b = some o → (∀ vs n, o.data ≠ .seq vs n) → b ≠ P → (hidT s1.heap (upd H P (.tbl #[]))).get? b = some o := fun b o e n d => hidT_get e (free1 b o e n d)
  have notP : ∀ b o, s1.heap.get? b = some o → (∀ vs, o.data ≠ .fields vs) → b ≠ P := fun b o e n z => by
    rw [z, hP] at e; cases e
    exact n _ rfl
  have ns : ∀ {b : Addr} {m : Str → Option Value}, s1.heap.Ns b m → (hidT s1.heap (upd H P (.tbl #[]))).Ns b m := fun {b m} ⟨o, es, ep, e, d, r⟩ =>
    ⟨o, es, ep, toB b o e (fun vs n z => by rw [d] at z; cases z) (notP b o e fun vs z => by rw [d] at z; cases z), d, r⟩
  have kin : K.In (hidT s1.heap (upd H P (.tbl #[]))) := fun b o e => by
    refine hidT_get (KX b o e) ?_
    rw [upd_ne (fun z => by rw [z, hKP] at e; cases e)]
    cases q : H b with
    | none => rfl
    | some u => rw [(seqs b u q).1] at e; cases e
  have bmB : BMain mg (hidT s1.heap (upd H P (.tbl #[]))) := by
    obtain ⟨bm, o, h1, h2, h3, h4, h5, h6, h7⟩ := hB
    exact ⟨bm, o, h1, h2, h3, toB bm o h4 (fun vs n z => by rw [h7] at z; cases z) (notP bm o h4 fun vs z => by rw [h7] at z; cases z), h5, h6, h7⟩
  have md : Mod K mg (hidT s1.heap (upd H P (.tbl #[]))) := ⟨kin, ns hns, ⟨mb, ns hb, hbb⟩, let ⟨mc, h1, h2⟩ := hlim; ⟨mc, ns h1, h2⟩⟩
  have e0 : Env0 Pr w K mg (hidT s1.heap (upd H P (.tbl #[]))) callerA [] s1 (upd H P (.tbl #[])) := ⟨rfl, md, fun b o e => of_hidT e, Nat.le_of_eq (hidT_size _ _), trivial, fun b hb => absurd (show b ∈ ([] : List Addr) from hb) List.not_mem_nil, hok1, .of_eq hg⟩
  have hl : vals.length = ps.length := by rw [wellAll_len hwl]; exact hlen
  refine codeAny_mono ((F _ kin (ns hns) bmB).run callerA [] s1 (upd H P (.tbl #[])) ⟨vals, []⟩ vals (vals.map toV) _ _ hr e0 (hbind s1 vals hl) rel (hsp H _ _ only up upd_same args)) fun r s' x => ?_
  cases r with
  | error e => exact (hCX _ e s' x).elim
  | ok fl =>
    cases fl with
    | next => exact False.elim x
    | brk => exact False.elim x
    | cont => exact False.elim x
    | ret u =>
      obtain ⟨v, H', os, bare, un, hok', r', q⟩ := x
      have kept : ∀ b o, b ≠ P → s1.heap.get? b = some o → s'.heap.get? b = some o := fun b o d e => by
        cases z : H b with
        | none => exact un.keep b o e (by rw [upd_ne d]; exact z) (fun h => absurd (show b ∈ ([] : List Addr) from h) List.not_mem_nil) List.not_mem_nil
        | some u2 =>
          rcases only b with y | ⟨ob, u3, y⟩
          · rw [z] at y; cases y
          · obtain ⟨e1, _⟩ := hok b _ y
            obtain ⟨e2, _⟩ := hok' b _ (un.frzs b ob _ (up b _ y))
            rw [e] at e1; cases e1
            exact e2
      obtain ⟨more, hm⟩ := un.tbls P #[] upd_same
      have grown : s'.heap.get? P = some (PySem.W.tabObj (#[] ++ more)) := hok' P _ hm
      have kin' : K.In s'.heap := fun b o e => kept b o (fun z => by rw [z, hKP] at e; cases e) (KX b o e)
      obtain ⟨as, hrd⟩ := Dw.reads (R := R) (cl := cl) hok' kin' d0 v u q r'
      refine ⟨u, as, rfl, hrd, ⟨fun b o e => ?_, fun b o e => ?_⟩, os, bare⟩
      · by_cases z : b = P
        · subst z
          rw [hP] at e; cases e
          exact .inr (.inl ⟨(hC.tab hP).isCodeTable, rfl, #[], more, rfl, grown⟩)
        · exact .inl (kept b o z e)
      · by_cases z : b = P
        · subst z; exact ⟨_, grown⟩
        · exact ⟨o, kept b o z e⟩
theorem walk_tab {r : OpenSpec} {k : Nat} {q : Program} {loose : List Str} {XP : (Str → Option Value) → Heap → Prop} {YP : World → Heap → Prop} {d d2 : DefRec} {K : Params → PySem.W.Frag} {CX : CXT} {ps : List Str} {c P : Addr} {x : Str} {sp : PySem.W.Frag → Sp}
    (hwell : r.wellSaid = true) (hdf : d.params.defaults = []) (hlen : r.args.length = ps.length) (hr : Room k callerA)
    (hY : ∀ (w : World) (h : Heap), YP w h → (K w.params).In h)
    (hrec : (recsOf q).find? (fun e => e.name == x) = some d2) (htab : ∀ p, PySem.W.tabIn (K p) x = some (c, P)) (hKP : ∀ p, (K p).lookup P = none)
    (F : ∀ (w : World) (mg : Str → Option Value) (fa : Addr) (h : Heap), YP w h → (K w.params).In h → h.Ns mainGlobals mg → mg d.name = some (.ref fa) →
      ∃ fd : FuncData, (∀ (s : Shared) (us : List Value), us.length = ps.length → BindsTo s fd ⟨us, []⟩ (ps.zip us)) ∧
        ∀ base : Heap, (K w.params).In base → base.Ns mainGlobals mg → BMain mg base → FnOk r.prog w (K w.params) mg base CX k fa fd ps (sp (K w.params)))
    (hsp : ∀ (K : PySem.W.Frag) (H H1 : Hp) (xs : List V) (a : Codec.denoteAll r.args), OnlyF H → (∀ b o, H b = some o → H1 b = some o) → H1 P = some (.tbl #[]) → Codec.withinAll r.args a = true → Codec.app r.args r.asked a = true → DwAll K H xs (Codec.encAll r.args a) →
      sp K xs H1 (fun v H' => Dw K H' v (r.ret.enc (Codec.app r.args r.f a))) fun _ _ _ => False)
    (hCX : ∀ (H : Hp) (s : Shared) (e : Value) (s' : Shared), CX [] H s (fun _ _ _ => False) e s' → False) :
    PySem.W.WalkOS q loose XP YP r d [] (fun f vs => PySem.call f vs) := by
  intro w s0 s1 mg mb G Y fa o pm cd doc dV kV ho hd hcd hD hmg hg args vals as hpre hlay hrd hwl hlo
  obtain ⟨a, e1, e2⟩ := PySem.W.os_pre_some hpre
  obtain ⟨e3, hwi⟩ := Codec.encAll_of_decAll r.args args a e1
  subst e3
  have KX := hY w _ Y
  obtain ⟨fd, hb, hF⟩ := F w mg fa _ Y KX G.T.g hmg
  obtain ⟨hC, hP⟩ := PySem.W.tab_of G.T KX hrec (htab w.params)
  have hB : BMain mg s1.heap := by
    obtain ⟨bm, ob, h1, h2, h3, h4, h5, h6⟩ := G.T.bmain
    refine ⟨bm, ob, h1, h2, fun z => ?_, h3, h4, h5, h6⟩
    obtain ⟨o', es, ep, e, dd, _⟩ := G.T.g
    rw [z, e] at h3; cases h3
    rw [dd] at h6; cases h6
  refine PySem.W.enter_call (codeAny_mono (call_tab (R := []) (cl := classAt s0.heap) (d0 := r.ret.enc (Codec.app r.args r.f a)) KX G.T.g G.T.b G.T.builtins G.T.nolimit hg hB hC hP (hKP _) hwl (pl_encAll _ _) (layable_weight hlay) hr hF hb (by rw [encAll_len]; exact hlen)
    (fun H H1 xs hO hS hT hA => hsp _ H H1 xs a hO hS hT hwi e2 hA) fun H e s' => hCX H s1 e s') fun r' s' hq => ?_)
  obtain ⟨u, as', rfl, h1, h2, h3, h4⟩ := hq
  exact ⟨.inl ⟨u, _, as', rfl, fun _ => rfl, h1, (OpenSpec.post_iff hwell hwi _ _).mpr rfl, fun z => Bool.noConfusion (show false = true from z)⟩, h2, h3, h4⟩
end KL

set_option Elab.async false
set_option linter.all false
set_option maxRecDepth 100000
set_option maxHeartbeats 2000000
namespace KB
open PySem PySem.Spec PyProof.Rows L2
theorem bt_len : bootBuiltins "len" = some (.builtin "len") := by decide +kernel
theorem bt_min : bootBuiltins "min" = some (.builtin "min") := by decide +kernel
theorem bt_max : bootBuiltins "max" = some (.builtin "max") := by decide +kernel
theorem bt_sum : bootBuiltins "sum" = some (.builtin "sum") := by decide +kernel
theorem bt_sorted : bootBuiltins "sorted" = some (.builtin "sorted") := by decide +kernel
theorem bt_list : bootBuiltins "list" = some (.type "list") := by decide +kernel
/-! ### a def that may be called; a class that may be made -/
structure Callee (P : Program) (w : World) (K : PySem.W.Frag) (mg : Str → Option Value) (base : Heap) (x : Str) (k : Nat) (ps : List Str) (sp : Sp) : Prop where
  ex : ∃ f fd, FnOk P w K mg base CX0 k f fd ps sp ∧ mg x = some (.ref f) ∧ PySem.W.keepIn K (.ref f) = true ∧ Binds K fd ps []
structure Maker (P : Program) (w : World) (K : PySem.W.Frag) (mg : Str → Option Value) (base : Heap) (x : Str) (C : Addr) (k : Nat) (ps : List Str) (sp : Sp) : Prop where
  ex : ∃ f fd, Mk K C f ∧ FnOk P w K mg base CX0 k f fd ps sp ∧ mg x = some (.ref C) ∧ Binds K fd ps []
section
variable {X : Cx} {x : Str} {k : Nat} {ps : List Str} {sp : Sp} {p pos : Pos} {e : Expr} {es : List Expr} {t : TA} {C : Addr}
theorem pe_callC (G : Callee X.prog X.w X.K X.mg X.base x k ps sp) (hr : Room k X.A) (hg : Gl X x) (ha : PA X (e :: es) t) (hd : (x == ("__debug__" : Str)) = false := by decide)
    (h1 : starEach (e :: es) X.env = (false, eval e X.env) :: starEach es X.env := by rfl) (h2 : ((backTo pos (starEach es X.env)).any fun x => x.1) = false := by rfl) : PE X (.Call (.Name x p) (e :: es) [] pos) (tCall sp [] E0 t) := by
  obtain ⟨f, fd, F, m, kp, b⟩ := G.ex
  exact pe_call F hr hg m kp b .nil pass0 ha hd h1 h2
theorem pe_makeC (G : Maker X.prog X.w X.K X.mg X.base x C k ps sp) (hr : Room (k + 1) X.A) (hg : Gl X x) (ha : PA X (e :: es) t) (hd : (x == ("__debug__" : Str)) = false := by decide)
    (h1 : starEach (e :: es) X.env = (false, eval e X.env) :: starEach es X.env := by rfl) (h2 : ((backTo pos (starEach es X.env)).any fun x => x.1) = false := by rfl) : PE X (.Call (.Name x p) (e :: es) [] pos) (tMake C sp [] E0 t) := by
  obtain ⟨f, fd, M, F, m, b⟩ := G.ex
  exact pe_make M F hr hg m b .nil pass0 ha hd h1 h2
theorem pe_makeC0 (G : Maker X.prog X.w X.K X.mg X.base x C k ps sp) (hr : Room (k + 1) X.A) (hg : Gl X x) (hd : (x == ("__debug__" : Str)) = false := by decide) : PE X (.Call (.Name x p) [] [] pos) (tMake C sp [] E0 tNil) := by
  obtain ⟨f, fd, M, F, m, b⟩ := G.ex
  exact pe_make0 M F hr hg m b .nil pass0 hd
theorem pe_globI {i : Int} (hg : Gl X x) (h : ∃ t, X.mg x = some (.int i t)) (hd : (x == ("__debug__" : Str)) = false := by decide) : PE X (.Name x pos) (tC (.int i)) := by
  obtain ⟨t, h⟩ := h
  exact pe_glob hg h ⟨t, rfl⟩ hd
theorem pe_globR {a : Addr} (hg : Gl X x) (h : X.mg x = some (.ref a)) (hd : (x == ("__debug__" : Str)) = false := by decide) : PE X (.Name x pos) (tC (.ref a)) := pe_glob hg h rfl hd
end
/-! ### within a comprehension's block: the written part told by name -/
section
variable {X : Cx} {K : PySem.W.Frag} {e : Expr} {ta : TE} {f : Str} {pos : Pos}
theorem pe_fldK (h : X.K = K) (he : PE X e ta) (hb : attributeBase e f X.env (eval e X.env) = eval e X.env) : PE X (.Attribute e f pos) (tFld K ta f) := by subst h; exact pe_fld he hb
theorem ix_listK (h : X.K = K) : IxR X (rIxL K) := by subst h; exact ix_list
theorem ix_tupK (h : X.K = K) : IxR X (rIxT K) := by subst h; exact ix_tup
theorem op_in_seqK (h : X.K = K) : OpR X (compareOp .In) (rIn K false) := by subst h; exact op_in_seq
theorem call_len_seqK (h : X.K = K) : CallR X (.builtin "len") (fun xs H Q => LenR K xs H Q) := by subst h; exact call_len_seq
end
/-- a tuple of the module -/
structure TupIn (K : PySem.W.Frag) (a : Addr) (xs : List V) : Prop where
  ex : ∃ (o : Obj) (its : Array Value) (n : Nat), K.lookup a = some o ∧ o.cls = .type "tuple" ∧ o.data = .seq its n ∧ its.size ≤ sizeLine ∧ Vals xs its.toList
theorem TupIn.sq {K : PySem.W.Frag} {a : Addr} {xs : List V} (h : TupIn K a xs) (H : Hp) : SqT K H a xs := .inr h.ex
/-- the body of a loop, of an if -/
def inLoop (s : Stmt) : List Stmt := match s with
  | .For _ _ b _ _ => b
  | .While _ b _ _ => b
  | .If _ b _ _ => b
  | _ => []
/-! ### the text -/
def top (i : Nat) : Stmt := PySem.Challenge.pw_keptuntil_s01_answers.main.body.getD i (.Pass ⟨0, 0, 0, 0⟩)
abbrev s_is_here : Stmt := top 1
theorem sc_is_here : FnScope ["office", "x"] ["office", "x"] (defScope s_is_here) := ⟨rfl, rfl, rfl, by decide +kernel, rfl, by decide +kernel, by decide +kernel⟩
abbrev s_things_here : Stmt := top 2
theorem sc_things_here : FnScope ["office", "x"] ["office"] (defScope s_things_here) := ⟨rfl, rfl, rfl, by decide +kernel, rfl, by decide +kernel, by decide +kernel⟩
abbrev s_is_held : Stmt := top 3
theorem sc_is_held : FnScope ["office", "x", "which", "matter"] ["office", "x"] (defScope s_is_held) := ⟨rfl, rfl, rfl, by decide +kernel, rfl, by decide +kernel, by decide +kernel⟩
abbrev s_kept_by_itself : Stmt := top 4
theorem sc_kept_by_itself : FnScope ["office", "x"] ["office", "x"] (defScope s_kept_by_itself) := ⟨rfl, rfl, rfl, by decide +kernel, rfl, by decide +kernel, by decide +kernel⟩
abbrev s_mark_with_needs : Stmt := top 5
theorem sc_mark_with_needs : FnScope ["office", "x", "mark", "marks", "waiting", "y"] ["office", "x", "mark", "marks"] (defScope s_mark_with_needs) := ⟨rfl, rfl, rfl, by decide +kernel, rfl, by decide +kernel, by decide +kernel⟩
abbrev s_kept_things : Stmt := top 6
theorem sc_kept_things : FnScope ["office", "kept", "x"] ["office"] (defScope s_kept_things) := ⟨rfl, rfl, rfl, by decide +kernel, rfl, by decide +kernel, by decide +kernel⟩
abbrev s_let_go : Stmt := top 7
theorem sc_let_go : FnScope ["office", "kept", "went", "x", "thing"] ["office"] (defScope s_let_go) := ⟨rfl, rfl, rfl, by decide +kernel, rfl, by decide +kernel, by decide +kernel⟩
abbrev s_moments_of_going : Stmt := top 8
theorem sc_moments_of_going : FnScope ["office", "moments", "here", "x"] ["office"] (defScope s_moments_of_going) := ⟨rfl, rfl, rfl, by decide +kernel, rfl, by decide +kernel, by decide +kernel⟩
abbrev s_ThingClass___init__ : Stmt := inClass (top 10) 0
theorem sc_ThingClass___init__ : FnScope ["self", "keep", "early"] ["self", "keep", "early"] (defScope s_ThingClass___init__) := ⟨rfl, rfl, rfl, by decide +kernel, rfl, by decide +kernel, by decide +kernel⟩
abbrev s_Thing___init__ : Stmt := inClass (top 11) 0
theorem sc_Thing___init__ : FnScope ["self", "which", "filed", "due", "needs"] ["self", "which", "filed", "due", "needs"] (defScope s_Thing___init__) := ⟨rfl, rfl, rfl, by decide +kernel, rfl, by decide +kernel, by decide +kernel⟩
abbrev s_Matter___init__ : Stmt := inClass (top 12) 0
theorem sc_Matter___init__ : FnScope ["self"] ["self"] (defScope s_Matter___init__) := ⟨rfl, rfl, rfl, by decide +kernel, rfl, by decide +kernel, by decide +kernel⟩
abbrev s_Office___init__ : Stmt := inClass (top 13) 0
theorem sc_Office___init__ : FnScope ["self"] ["self"] (defScope s_Office___init__) := ⟨rfl, rfl, rfl, by decide +kernel, rfl, by decide +kernel, by decide +kernel⟩
abbrev s_is_rising : Stmt := top 28
theorem sc_is_rising : FnScope ["numbers", "k"] ["numbers"] (defScope s_is_rising) := ⟨rfl, rfl, rfl, by decide +kernel, rfl, by decide +kernel, by decide +kernel⟩
abbrev s_all_here : Stmt := top 29
theorem sc_all_here : FnScope ["office", "numbers", "x"] ["office", "numbers"] (defScope s_all_here) := ⟨rfl, rfl, rfl, by decide +kernel, rfl, by decide +kernel, by decide +kernel⟩
abbrev s_all_classes : Stmt := top 30
theorem sc_all_classes : FnScope ["office", "numbers", "which"] ["office", "numbers"] (defScope s_all_classes) := ⟨rfl, rfl, rfl, by decide +kernel, rfl, by decide +kernel, by decide +kernel⟩
abbrev s_make_class : Stmt := top 31
theorem sc_make_class : FnScope ["office", "keep", "early"] ["office", "keep", "early"] (defScope s_make_class) := ⟨rfl, rfl, rfl, by decide +kernel, rfl, by decide +kernel, by decide +kernel⟩
abbrev s_make_longer : Stmt := top 32
theorem sc_make_longer : FnScope ["office", "which", "keep", "changed", "thing", "unmoved"] ["office", "which", "keep"] (defScope s_make_longer) := ⟨rfl, rfl, rfl, by decide +kernel, rfl, by decide +kernel, by decide +kernel⟩
abbrev s_file_thing : Stmt := top 33
theorem sc_file_thing : FnScope ["office", "which", "needs", "due"] ["office", "which", "needs"] (defScope s_file_thing) := ⟨rfl, rfl, rfl, by decide +kernel, rfl, by decide +kernel, by decide +kernel⟩
abbrev s_add_need : Stmt := top 34
theorem sc_add_need : FnScope ["office", "x", "y", "needs"] ["office", "x", "y"] (defScope s_add_need) := ⟨rfl, rfl, rfl, by decide +kernel, rfl, by decide +kernel, by decide +kernel⟩
abbrev s_fault_of_names : Stmt := top 35
theorem sc_fault_of_names : FnScope ["office", "things", "classes"] ["office", "things", "classes"] (defScope s_fault_of_names) := ⟨rfl, rfl, rfl, by decide +kernel, rfl, by decide +kernel, by decide +kernel⟩
abbrev s_add_names : Stmt := top 36
theorem sc_add_names : FnScope ["matter", "things", "classes", "x", "which"] ["matter", "things", "classes"] (defScope s_add_names) := ⟨rfl, rfl, rfl, by decide +kernel, rfl, by decide +kernel, by decide +kernel⟩
abbrev s_make_matter : Stmt := top 37
theorem sc_make_matter : FnScope ["office", "things", "classes", "fault", "matter"] ["office", "things", "classes"] (defScope s_make_matter) := ⟨rfl, rfl, rfl, by decide +kernel, rfl, by decide +kernel, by decide +kernel⟩
abbrev s_fault_of_matter : Stmt := top 38
theorem sc_fault_of_matter : FnScope ["office", "number"] ["office", "number"] (defScope s_fault_of_matter) := ⟨rfl, rfl, rfl, by decide +kernel, rfl, by decide +kernel, by decide +kernel⟩
abbrev s_name_more : Stmt := top 39
theorem sc_name_more : FnScope ["office", "number", "things", "classes", "fault"] ["office", "number", "things", "classes"] (defScope s_name_more) := ⟨rfl, rfl, rfl, by decide +kernel, rfl, by decide +kernel, by decide +kernel⟩
abbrev s_release_matter : Stmt := top 40
theorem sc_release_matter : FnScope ["office", "number", "fault", "matter"] ["office", "number"] (defScope s_release_matter) := ⟨rfl, rfl, rfl, by decide +kernel, rfl, by decide +kernel, by decide +kernel⟩
abbrev s_ask_thing : Stmt := top 41
theorem sc_ask_thing : FnScope ["office", "x", "thing"] ["office", "x"] (defScope s_ask_thing) := ⟨rfl, rfl, rfl, by decide +kernel, rfl, by decide +kernel, by decide +kernel⟩
abbrev s_tell_thing : Stmt := top 43
theorem sc_tell_thing : FnScope ["office", "x", "thing", "gone"] ["office", "x"] (defScope s_tell_thing) := ⟨rfl, rfl, rfl, by decide +kernel, rfl, by decide +kernel, by decide +kernel⟩
abbrev s_tell_when : Stmt := top 44
theorem sc_tell_when : FnScope ["office", "x", "moment"] ["office", "x"] (defScope s_tell_when) := ⟨rfl, rfl, rfl, by decide +kernel, rfl, by decide +kernel, by decide +kernel⟩
abbrev s_tell_next : Stmt := top 45
theorem sc_tell_next : FnScope ["office", "moments", "going", "x", "first"] ["office"] (defScope s_tell_next) := ⟨rfl, rfl, rfl, by decide +kernel, rfl, by decide +kernel, by decide +kernel⟩
abbrev s_tell_why : Stmt := top 46
theorem sc_tell_why : FnScope ["office", "x", "y"] ["office", "x"] (defScope s_tell_why) := ⟨rfl, rfl, rfl, by decide +kernel, rfl, by decide +kernel, by decide +kernel⟩
abbrev s_tell_went : Stmt := top 47
theorem sc_tell_went : FnScope ["office", "i", "x"] ["office", "i"] (defScope s_tell_went) := ⟨rfl, rfl, rfl, by decide +kernel, rfl, by decide +kernel, by decide +kernel⟩
abbrev s_tell_told : Stmt := top 48
theorem sc_tell_told : FnScope ["office", "here", "standing", "matter"] ["office"] (defScope s_tell_told) := ⟨rfl, rfl, rfl, by decide +kernel, rfl, by decide +kernel, by decide +kernel⟩
abbrev s_act : Stmt := top 65
theorem sc_act : FnScope ["office", "call", "numbers", "rows"] ["office", "call", "numbers", "rows"] (defScope s_act) := ⟨rfl, rfl, rfl, by decide +kernel, rfl, by decide +kernel, by decide +kernel⟩
abbrev s_act_at_moment : Stmt := top 66
theorem sc_act_at_moment : FnScope ["office", "call", "numbers", "rows", "moment", "went", "number"] ["office", "call", "numbers", "rows"] (defScope s_act_at_moment) := ⟨rfl, rfl, rfl, by decide +kernel, rfl, by decide +kernel, by decide +kernel⟩
abbrev s_tell : Stmt := top 67
theorem sc_tell : FnScope ["office", "call", "numbers"] ["office", "call", "numbers"] (defScope s_tell) := ⟨rfl, rfl, rfl, by decide +kernel, rfl, by decide +kernel, by decide +kernel⟩
abbrev s_answer_call : Stmt := top 68
theorem sc_answer_call : FnScope ["office", "call", "numbers", "rows"] ["office", "call", "numbers", "rows"] (defScope s_answer_call) := ⟨rfl, rfl, rfl, by decide +kernel, rfl, by decide +kernel, by decide +kernel⟩
abbrev s_written : Stmt := top 69
theorem sc_written : FnScope ["number", "others"] ["number", "others"] (defScope s_written) := ⟨rfl, rfl, rfl, by decide +kernel, rfl, by decide +kernel, by decide +kernel⟩
abbrev s_read_rows : Stmt := top 70
theorem sc_read_rows : FnScope ["calls", "at", "many", "rows", "start"] ["calls", "at", "many"] (defScope s_read_rows) := ⟨rfl, rfl, rfl, by decide +kernel, rfl, by decide +kernel, by decide +kernel⟩
abbrev s_answers : Stmt := top 71
theorem sc_answers : FnScope ["calls", "office", "given", "at", "call", "shape", "behind", "numbers", "rows", "row", "answer"] ["calls"] (defScope s_answers) := ⟨rfl, rfl, rfl, by decide +kernel, rfl, by decide +kernel, by decide +kernel⟩
structure Adr where
  ThingClass : Addr
  Thing : Addr
  Matter : Addr
  Office : Addr
  t_SHAPES : Addr
  t_SHAPES_at : Nat → Addr
structure Txt (K : PySem.W.Frag) (mg : Str → Option Value) (A : Adr) : Prop where
  cl_ThingClass : Cls K A.ThingClass
  n_ThingClass_keep : NoAttr K A.ThingClass "keep"
  n_ThingClass_early : NoAttr K A.ThingClass "early"
  cl_Thing : Cls K A.Thing
  n_Thing_which : NoAttr K A.Thing "which"
  n_Thing_filed : NoAttr K A.Thing "filed"
  n_Thing_due : NoAttr K A.Thing "due"
  n_Thing_needs : NoAttr K A.Thing "needs"
  n_Thing_here : NoAttr K A.Thing "here"
  n_Thing_gone_at : NoAttr K A.Thing "gone_at"
  cl_Matter : Cls K A.Matter
  n_Matter_things : NoAttr K A.Matter "things"
  n_Matter_classes : NoAttr K A.Matter "classes"
  n_Matter_stands : NoAttr K A.Matter "stands"
  cl_Office : Cls K A.Office
  n_Office_moment : NoAttr K A.Office "moment"
  n_Office_classes : NoAttr K A.Office "classes"
  n_Office_things : NoAttr K A.Office "things"
  n_Office_matters : NoAttr K A.Office "matters"
  n_Office_gone : NoAttr K A.Office "gone"
  g_WRONG : ∃ t, mg "WRONG" = some (.int (-1) t)
  g_TOO_MANY : ∃ t, mg "TOO_MANY" = some (.int (-2) t)
  g_FULL : ∃ t, mg "FULL" = some (.int (-3) t)
  g_RELEASED : ∃ t, mg "RELEASED" = some (.int (-3) t)
  g_NOT_THERE : ∃ t, mg "NOT_THERE" = some (.int (-4) t)
  g_BELOW_LAST : ∃ t, mg "BELOW_LAST" = some (.int (-5) t)
  g_NOT_LET : ∃ t, mg "NOT_LET" = some (.int (-9) t)
  g_KEEP_LIMIT : ∃ t, mg "KEEP_LIMIT" = some (.int 549755813888 t)
  g_MOST_CLASSES : ∃ t, mg "MOST_CLASSES" = some (.int 16 t)
  g_MOST_THINGS : ∃ t, mg "MOST_THINGS" = some (.int 256 t)
  g_MOST_MATTERS : ∃ t, mg "MOST_MATTERS" = some (.int 32 t)
  g_MOST_NEEDS : ∃ t, mg "MOST_NEEDS" = some (.int 16 t)
  g_MOST_NAMED : ∃ t, mg "MOST_NAMED" = some (.int 256 t)
  g_MOMENT_LIMIT : ∃ t, mg "MOMENT_LIMIT" = some (.int 1099511627776 t)
  g_MAKE_CLASS : ∃ t, mg "MAKE_CLASS" = some (.int 0 t)
  g_LONGER : ∃ t, mg "LONGER" = some (.int 1 t)
  g_FILE : ∃ t, mg "FILE" = some (.int 2 t)
  g_NEED : ∃ t, mg "NEED" = some (.int 3 t)
  g_MATTER : ∃ t, mg "MATTER" = some (.int 4 t)
  g_MORE : ∃ t, mg "MORE" = some (.int 5 t)
  g_RELEASE : ∃ t, mg "RELEASE" = some (.int 6 t)
  g_TICK : ∃ t, mg "TICK" = some (.int 8 t)
  g_THING : ∃ t, mg "THING" = some (.int 9 t)
  g_WHEN : ∃ t, mg "WHEN" = some (.int 10 t)
  g_NEXT : ∃ t, mg "NEXT" = some (.int 11 t)
  g_WHY : ∃ t, mg "WHY" = some (.int 12 t)
  g_WENT : ∃ t, mg "WENT" = some (.int 13 t)
  t_SHAPES : mg "SHAPES" = some (.ref A.t_SHAPES)
  tt_SHAPES : TupIn K A.t_SHAPES ((List.range 15).map fun i => V.ref (A.t_SHAPES_at i))
  tt_SHAPES_0 : TupIn K (A.t_SHAPES_at 0) [V.int 2, V.int 0]
  tt_SHAPES_1 : TupIn K (A.t_SHAPES_at 1) [V.int 2, V.int 0]
  tt_SHAPES_2 : TupIn K (A.t_SHAPES_at 2) [V.int 2, V.int 1]
  tt_SHAPES_3 : TupIn K (A.t_SHAPES_at 3) [V.int 3, V.int 0]
  tt_SHAPES_4 : TupIn K (A.t_SHAPES_at 4) [V.int 1, V.int 2]
  tt_SHAPES_5 : TupIn K (A.t_SHAPES_at 5) [V.int 2, V.int 2]
  tt_SHAPES_6 : TupIn K (A.t_SHAPES_at 6) [V.int 2, V.int 0]
  tt_SHAPES_7 : TupIn K (A.t_SHAPES_at 7) [V.int 2, V.int 0]
  tt_SHAPES_8 : TupIn K (A.t_SHAPES_at 8) [V.int 1, V.int 0]
  tt_SHAPES_9 : TupIn K (A.t_SHAPES_at 9) [V.int 1, V.int 0]
  tt_SHAPES_10 : TupIn K (A.t_SHAPES_at 10) [V.int 1, V.int 0]
  tt_SHAPES_11 : TupIn K (A.t_SHAPES_at 11) [V.int 0, V.int 0]
  tt_SHAPES_12 : TupIn K (A.t_SHAPES_at 12) [V.int 1, V.int 0]
  tt_SHAPES_13 : TupIn K (A.t_SHAPES_at 13) [V.int 1, V.int 0]
  tt_SHAPES_14 : TupIn K (A.t_SHAPES_at 14) [V.int 0, V.int 0]
  b_len : mg "len" = none
  b_list : mg "list" = none
  b_min : mg "min" = none
  b_range : mg "range" = none
  b_sorted : mg "sorted" = none
  b_sum : mg "sum" = none
end KB

set_option Elab.async false
set_option linter.all false
set_option autoImplicit false
set_option maxRecDepth 100000
set_option maxHeartbeats 2000000
namespace KB
open PySem PySem.Spec PyProof.Rows L2
/-! ### whose an address is -/
inductive Tag where
  | out | off | cl | th | ma | go | c (i : Nat) | t (i : Nat) | n (i : Nat) | m (i : Nat) | mt (i : Nat) | mc (i : Nat)
  deriving DecidableEq
structure Lo where
  a : Tag → Addr
  g : Addr → Tag
def live (s : Keep.State) : Tag → Prop
  | .out => False
  | .c i => i < s.classes.length
  | .t i => i < s.things.length
  | .n i => i < s.things.length
  | .m i => i < s.matters.length
  | .mt i => i < s.matters.length
  | .mc i => i < s.matters.length
  | _ => True
/-! ### the attributes -/
def fOff (now : Nat) (cl th ma go : Addr) : List (Str × V) := [("moment", .int now), ("classes", .ref cl), ("things", .ref th), ("matters", .ref ma), ("gone", .ref go)]
def fCls (c : Keep.Class) : List (Str × V) := [("keep", .int c.keep), ("early", .int (if c.early = true then 1 else 0))]
def fTh (t : Keep.Thing) (nl : Addr) : List (Str × V) := [("which", .int t.cls), ("filed", .int t.filed), ("due", .int t.due), ("needs", .ref nl), ("here", .bl t.gone.isNone), ("gone_at", .int (t.gone.getD 0 : Nat))]
def fMt (st : Bool) (d1 d2 : Addr) : List (Str × V) := [("things", .ref d1), ("classes", .ref d2), ("stands", .bl st)]
def vints (l : List Nat) : List V := l.map fun (n : Nat) => V.int n
/-- a dict that is used as a set -/
def dset (l : List Nat) : List (Key × V) := l.map fun (n : Nat) => (Sum.inl (n : Int), V.bl true)
/-- what a cell of the office holds -/
def Cell (A : Adr) (L : Lo) (s : Keep.State) : Tag → HO → Prop
  | .out, _ => False
  | .off, o => ∃ dx, o = .ins A.Office dx (fOff s.now (L.a .cl) (L.a .th) (L.a .ma) (L.a .go))
  | .cl, o => o = .lst ((List.range s.classes.length).map fun i => V.ref (L.a (.c i)))
  | .th, o => o = .lst ((List.range s.things.length).map fun i => V.ref (L.a (.t i)))
  | .ma, o => o = .lst ((List.range s.matters.length).map fun i => V.ref (L.a (.m i)))
  | .go, o => o = .lst (vints (s.went.map (·.1)))
  | .c i, o => ∀ c, s.classes[i]? = some c → ∃ dx, o = .ins A.ThingClass dx (fCls c)
  | .t i, o => ∀ t, s.things[i]? = some t → ∃ dx, o = .ins A.Thing dx (fTh t (L.a (.n i)))
  | .n i, o => ∀ t, s.things[i]? = some t → ∃ ns, ns.Perm t.needs ∧ o = .lst (vints ns)
  | .m i, o => ∀ m, s.matters[i]? = some m → ∃ dx, o = .ins A.Matter dx (fMt m.stands (L.a (.mt i)) (L.a (.mc i)))
  | .mt i, o => ∀ m, s.matters[i]? = some m → ∃ l, l.Perm m.things ∧ o = .dK (dset l)
  | .mc i, o => ∀ m, s.matters[i]? = some m → ∃ l, l.Perm m.classes ∧ o = .dK (dset l)
/-- no cell of the office's can be so -/
def Outs : Option HO → Prop
  | none => True
  | some (.ext _) => True
  | some (.tbl _) => True
  | _ => False
structure Rep (A : Adr) (H : Hp) (L : Lo) (s : Keep.State) : Prop where
  cell : ∀ g, live s g → ∃ o, H (L.a g) = some o ∧ Cell A L s g o
  tag : ∀ g, live s g → L.g (L.a g) = g
  owx : ∀ b, Outs (H b) → L.g b = .out
/-- what isn't the office's is as it was -/
def Fr (H : Hp) (L : Lo) (H' : Hp) (L' : Lo) : Prop := ∀ b o, H b = some o → L.g b = .out → H' b = some o ∧ L'.g b = .out
theorem Fr.refl (H : Hp) (L : Lo) : Fr H L H L := fun _ _ h g => ⟨h, g⟩
theorem Fr.trans {H H1 H2 : Hp} {L L1 L2 : Lo} (a : Fr H L H1 L1) (b : Fr H1 L1 H2 L2) : Fr H L H2 L2 := fun c o h g => let ⟨x, y⟩ := a c o h g; b c o x y
theorem Fr.new {H : Hp} {L : Lo} {p : Addr} {o : HO} (h : H p = none) : Fr H L (upd H p o) L := fun b u e g => ⟨by rw [upd_ne (ne_of_none e h)]; exact e, g⟩
theorem Fr.at {H : Hp} {L : Lo} {p : Addr} {o : HO} (h : L.g p ≠ .out) : Fr H L (upd H p o) L := fun b u e g => ⟨by rw [upd_ne (by intro q; rw [q] at g; exact h g)]; exact e, g⟩
section
variable {A : Adr} {H H' : Hp} {L L' : Lo} {s s' : Keep.State}
theorem Rep.ne (R : Rep A H L s) {g g' : Tag} (h : live s g) (h' : live s g') (d : g ≠ g') : L.a g ≠ L.a g' := fun e => d (by rw [← R.tag g h, ← R.tag g' h', e])
theorem live_out {s : Keep.State} {g : Tag} (h : live s g) : g ≠ .out := fun e => by subst e; exact h
theorem Rep.apart (R : Rep A H L s) {g : Tag} {b : Addr} (h : live s g) (hb : L.g b = .out) : L.a g ≠ b := fun e => live_out h (by rw [← R.tag g h, e, hb])
/-- the office's own cells kept: it is as it was -/
theorem Rep.stay (R : Rep A H L s) (k : ∀ g o, live s g → H (L.a g) = some o → H' (L.a g) = some o) (ow : ∀ b, Outs (H' b) → L.g b = .out) : Rep A H' L s :=
  ⟨fun g l => let ⟨o, h, c⟩ := R.cell g l; ⟨o, k g o l h, c⟩, R.tag, ow⟩
theorem Rep.own (R : Rep A H L s) : ∀ b, H b = none → L.g b = .out := fun b h => R.owx b (by rw [h]; trivial)
theorem own_upd (ow : ∀ b, Outs (H b) → L.g b = .out) {p : Addr} {o : HO} (hp : Outs (some o) → L.g p = .out) : ∀ b, Outs (upd H p o b) → L.g b = .out := fun b h => by
  by_cases c : b = p
  · rw [c, upd_same] at h; rw [c]; exact hp h
  · rw [upd_ne c] at h; exact ow b h
/-- a new thing that isn't the office's -/
theorem Rep.new (R : Rep A H L s) {p : Addr} {o : HO} (h : H p = none) : Rep A (upd H p o) L s :=
  R.stay (fun g u _ e => by rw [upd_ne (ne_of_none e h)]; exact e) (own_upd R.owx fun _ => R.own p h)
/-- a thing that isn't the office's is changed -/
theorem Rep.other (R : Rep A H L s) {p : Addr} {o : HO} (h : L.g p = .out) : Rep A (upd H p o) L s :=
  R.stay (fun g u l e => by rw [upd_ne (R.apart l h)]; exact e) (own_upd R.owx fun _ => h)
/-- through a frame: nothing of the office's is touched when its tags stand -/
theorem Rep.frAt (R : Rep A H L s) {g : Tag} {o : HO} (h : live s g) : Fr H L (upd H (L.a g) o) L := Fr.at (by rw [R.tag g h]; exact live_out h)
/-- one cell changed, the state changed -/
theorem Rep.put (R : Rep A H L s) {g0 : Tag} {o' : HO} (h0 : live s g0) (hl : ∀ g, live s' g → live s g ∨ (g ≠ g0 ∧ L.a g ≠ L.a g0 ∧ L.g (L.a g) = g ∧ ∃ o, H (L.a g) = some o ∧ Cell A L s' g o)) (hc : Cell A L s' g0 o') (hk : ∀ g o, live s g → live s' g → g ≠ g0 → Cell A L s g o → Cell A L s' g o) (no : ¬ Outs (some o') := by intro z; exact z) :
    Rep A (upd H (L.a g0) o') L s' := by
  refine ⟨fun g l => ?_, fun g l => ?_, own_upd R.owx fun z => absurd z no⟩
  · by_cases e : g = g0
    · subst e
      exact ⟨o', upd_same, hc⟩
    · rcases hl g l with q | ⟨_, d, _, o, h, c⟩
      · obtain ⟨o, h, c⟩ := R.cell g q
        exact ⟨o, by rw [upd_ne (R.ne q h0 e)]; exact h, hk g o q l e c⟩
      · exact ⟨o, by rw [upd_ne d]; exact h, c⟩
  · rcases hl g l with q | ⟨_, _, q, _⟩
    · exact R.tag g q
    · exact q
def Lo.add (L : Lo) (g : Tag) (p : Addr) : Lo := ⟨fun g' => if g' = g then p else L.a g', fun b => if b = p then g else L.g b⟩
theorem add_at {L : Lo} {g : Tag} {p : Addr} : (L.add g p).a g = p := if_pos rfl
theorem add_ne {L : Lo} {g g' : Tag} {p : Addr} (h : g' ≠ g) : (L.add g p).a g' = L.a g' := if_neg h
theorem add_g {L : Lo} {g : Tag} {p : Addr} : (L.add g p).g p = g := if_pos rfl
theorem add_gne {L : Lo} {g : Tag} {p b : Addr} (h : b ≠ p) : (L.add g p).g b = L.g b := if_neg h
theorem Cell.congr {g : Tag} {o : HO} (e : ∀ g, live s g → L'.a g = L.a g) (l : live s g) (c : Cell A L s g o) : Cell A L' s g o := by
  have refs : ∀ (n : Nat) (f f' : Nat → Addr), (∀ i, i < n → f' i = f i) → ((List.range n).map fun i => V.ref (f' i)) = (List.range n).map fun i => V.ref (f i) := fun n f f' h => by
    apply List.map_congr_left
    intro i hi
    rw [h i (List.mem_range.mp hi)]
  cases g with
  | out => exact c
  | go => exact c
  | off =>
    obtain ⟨dx, c⟩ := c
    exact ⟨dx, by rw [c, e .cl trivial, e .th trivial, e .ma trivial, e .go trivial]⟩
  | cl => exact (show o = _ from c).trans (by rw [refs _ (fun i => L.a (.c i)) (fun i => L'.a (.c i)) fun i hi => e (.c i) hi])
  | th => exact (show o = _ from c).trans (by rw [refs _ (fun i => L.a (.t i)) (fun i => L'.a (.t i)) fun i hi => e (.t i) hi])
  | ma => exact (show o = _ from c).trans (by rw [refs _ (fun i => L.a (.m i)) (fun i => L'.a (.m i)) fun i hi => e (.m i) hi])
  | c i => exact c
  | t i =>
    intro t q
    obtain ⟨dx, c⟩ := c t q
    exact ⟨dx, by rw [c, e (.n i) l]⟩
  | n i => exact c
  | m i =>
    intro m q
    obtain ⟨dx, c⟩ := c m q
    exact ⟨dx, by rw [c, e (.mt i) l, e (.mc i) l]⟩
  | mt i => exact c
  | mc i => exact c
/-- a new address is given its tag, ahead of the state -/
theorem Rep.add (R : Rep A H L s) {g : Tag} {p : Addr} {o : HO} (hg : ¬ live s g) (hp : L.g p = .out) (hH : H p = some o) (no : ¬ Outs (some o) := by intro z; exact z) : Rep A H (L.add g p) s := by
  have ne : ∀ g', live s g' → g' ≠ g := fun g' l e => hg (by rw [← e]; exact l)
  refine ⟨fun g' l => ?_, fun g' l => ?_, fun b h => ?_⟩
  · obtain ⟨o', h, c⟩ := R.cell g' l
    exact ⟨o', by rw [add_ne (ne g' l)]; exact h, Cell.congr (fun g'' l' => add_ne (ne g'' l')) l c⟩
  · rw [add_ne (ne g' l), add_gne (R.apart l hp)]
    exact R.tag g' l
  · rw [add_gne (fun q => by rw [q, hH] at h; exact no h)]
    exact R.owx b h
theorem Fr.add {g : Tag} {p : Addr} (hp : H p = none) (h : Fr H L H' L') : Fr H L H' (L'.add g p) := fun b o e q =>
  let ⟨x, y⟩ := h b o e q
  ⟨x, by rw [add_gne (ne_of_none e hp)]; exact y⟩
/-! ### the cells by name -/
theorem Rep.off (R : Rep A H L s) : ∃ dx, H (L.a .off) = some (.ins A.Office dx (fOff s.now (L.a .cl) (L.a .th) (L.a .ma) (L.a .go))) := by
  obtain ⟨o, h, dx, c⟩ := R.cell .off trivial
  exact ⟨dx, by rw [h, c]⟩
theorem Rep.cl (R : Rep A H L s) : H (L.a .cl) = some (.lst ((List.range s.classes.length).map fun i => V.ref (L.a (.c i)))) := by
  obtain ⟨o, h, c⟩ := R.cell .cl trivial
  rw [h, show o = _ from c]
theorem Rep.th (R : Rep A H L s) : H (L.a .th) = some (.lst ((List.range s.things.length).map fun i => V.ref (L.a (.t i)))) := by
  obtain ⟨o, h, c⟩ := R.cell .th trivial
  rw [h, show o = _ from c]
theorem Rep.ma (R : Rep A H L s) : H (L.a .ma) = some (.lst ((List.range s.matters.length).map fun i => V.ref (L.a (.m i)))) := by
  obtain ⟨o, h, c⟩ := R.cell .ma trivial
  rw [h, show o = _ from c]
theorem Rep.go (R : Rep A H L s) : H (L.a .go) = some (.lst (vints (s.went.map (·.1)))) := by
  obtain ⟨o, h, c⟩ := R.cell .go trivial
  rw [h, show o = _ from c]
theorem Rep.c (R : Rep A H L s) {i : Nat} {x : Keep.Class} (e : s.classes[i]? = some x) : ∃ dx, H (L.a (.c i)) = some (.ins A.ThingClass dx (fCls x)) := by
  obtain ⟨o, h, c⟩ := R.cell (.c i) (List.getElem?_eq_some_iff.mp e).1
  obtain ⟨dx, c⟩ := c x e
  exact ⟨dx, by rw [h, c]⟩
theorem Rep.t (R : Rep A H L s) {i : Nat} {x : Keep.Thing} (e : s.things[i]? = some x) : ∃ dx, H (L.a (.t i)) = some (.ins A.Thing dx (fTh x (L.a (.n i)))) := by
  obtain ⟨o, h, c⟩ := R.cell (.t i) (List.getElem?_eq_some_iff.mp e).1
  obtain ⟨dx, c⟩ := c x e
  exact ⟨dx, by rw [h, c]⟩
theorem Rep.n (R : Rep A H L s) {i : Nat} {x : Keep.Thing} (e : s.things[i]? = some x) : ∃ ns, ns.Perm x.needs ∧ H (L.a (.n i)) = some (.lst (vints ns)) := by
  obtain ⟨o, h, c⟩ := R.cell (.n i) (List.getElem?_eq_some_iff.mp e).1
  obtain ⟨ns, p, c⟩ := c x e
  exact ⟨ns, p, by rw [h, c]⟩
theorem Rep.m (R : Rep A H L s) {i : Nat} {x : Keep.Matter} (e : s.matters[i]? = some x) : ∃ dx, H (L.a (.m i)) = some (.ins A.Matter dx (fMt x.stands (L.a (.mt i)) (L.a (.mc i)))) := by
  obtain ⟨o, h, c⟩ := R.cell (.m i) (List.getElem?_eq_some_iff.mp e).1
  obtain ⟨dx, c⟩ := c x e
  exact ⟨dx, by rw [h, c]⟩
theorem Rep.mt (R : Rep A H L s) {i : Nat} {x : Keep.Matter} (e : s.matters[i]? = some x) : ∃ l, l.Perm x.things ∧ H (L.a (.mt i)) = some (.dK (dset l)) := by
  obtain ⟨o, h, c⟩ := R.cell (.mt i) (List.getElem?_eq_some_iff.mp e).1
  obtain ⟨ns, p, c⟩ := c x e
  exact ⟨ns, p, by rw [h, c]⟩
theorem Rep.mc (R : Rep A H L s) {i : Nat} {x : Keep.Matter} (e : s.matters[i]? = some x) : ∃ l, l.Perm x.classes ∧ H (L.a (.mc i)) = some (.dK (dset l)) := by
  obtain ⟨o, h, c⟩ := R.cell (.mc i) (List.getElem?_eq_some_iff.mp e).1
  obtain ⟨ns, p, c⟩ := c x e
  exact ⟨ns, p, by rw [h, c]⟩
/-! ### changes -/
theorem get_set {α : Type} {l : List α} {i j : Nat} {x u v : α} (e : l[i]? = some x) (h : (l.set i u)[j]? = some v) : (j = i ∧ v = u) ∨ (j ≠ i ∧ l[j]? = some v) := by
  rw [List.getElem?_set] at h
  have := (List.getElem?_eq_some_iff.mp e).1
  by_cases c : i = j
  · subst c
    rw [if_pos rfl, if_pos this] at h
    exact .inl ⟨rfl, (Option.some.inj h).symm⟩
  · rw [if_neg c] at h
    exact .inr ⟨fun q => c q.symm, h⟩
theorem live_setT {i : Nat} {u : Keep.Thing} {g : Tag} : live { s with things := s.things.set i u } g ↔ live s g := by
  cases g <;> simp [live]
/-- one thing's attributes -/
theorem Rep.setThing (R : Rep A H L s) {i : Nat} {t u : Keep.Thing} {dx : Addr} (e : s.things[i]? = some t) (hn : u.needs = t.needs) : Rep A (upd H (L.a (.t i)) (.ins A.Thing dx (fTh u (L.a (.n i))))) L { s with things := s.things.set i u } := by
  refine R.put (g0 := .t i) (List.getElem?_eq_some_iff.mp e).1 (fun g l => .inl (live_setT.mp l)) (fun t' q => ?_) (fun g o lA lB d c => ?_)
  · rcases get_set e q with ⟨_, rfl⟩ | ⟨z, _⟩
    · exact ⟨dx, rfl⟩
    · exact absurd rfl z
  · cases g with
    | th => show o = HO.lst ((List.range (s.things.set i u).length).map _); rw [List.length_set]; exact c
    | t j =>
      intro t' q
      rcases get_set e q with ⟨rfl, rfl⟩ | ⟨_, z⟩
      · exact absurd rfl d
      · exact c t' z
    | n j =>
      intro t' q
      rcases get_set e q with ⟨rfl, rfl⟩ | ⟨_, z⟩
      · rw [hn]; exact c t e
      · exact c t' z
    | out => exact c
    | go => exact c
    | off => exact c
    | cl => exact c
    | ma => exact c
    | c k => exact c
    | m k => exact c
    | mt k => exact c
    | mc k => exact c
/-- one thing's needs -/
theorem Rep.setNeeds (R : Rep A H L s) {i : Nat} {t u : Keep.Thing} {ns : List Nat} (e : s.things[i]? = some t) (hp : ns.Perm u.needs) (hf : ∀ a, fTh u a = fTh t a) : Rep A (upd H (L.a (.n i)) (.lst (vints ns))) L { s with things := s.things.set i u } := by
  refine R.put (g0 := .n i) (List.getElem?_eq_some_iff.mp e).1 (fun g l => .inl (live_setT.mp l)) (fun t' q => ?_) (fun g o lA lB d c => ?_)
  · rcases get_set e q with ⟨_, rfl⟩ | ⟨z, _⟩
    · exact ⟨ns, hp, rfl⟩
    · exact absurd rfl z
  · cases g with
    | th => show o = HO.lst ((List.range (s.things.set i u).length).map _); rw [List.length_set]; exact c
    | t j =>
      intro t' q
      rcases get_set e q with ⟨rfl, rfl⟩ | ⟨_, z⟩
      · rw [hf]; exact c t e
      · exact c t' z
    | n j =>
      intro t' q
      rcases get_set e q with ⟨rfl, rfl⟩ | ⟨_, z⟩
      · exact absurd rfl d
      · exact c t' z
    | out => exact c
    | go => exact c
    | off => exact c
    | cl => exact c
    | ma => exact c
    | c k => exact c
    | m k => exact c
    | mt k => exact c
    | mc k => exact c
/-- a moment is told -/
theorem Rep.setNow (R : Rep A H L s) {dx : Addr} {m : Nat} : Rep A (upd H (L.a .off) (.ins A.Office dx (fOff m (L.a .cl) (L.a .th) (L.a .ma) (L.a .go)))) L { s with now := m } := by
  refine R.put (g0 := .off) trivial (fun g l => .inl (by cases g <;> exact l)) ⟨dx, rfl⟩ (fun g o lA lB d c => ?_)
  cases g with
  | off => exact absurd rfl d
  | out => exact c
  | go => exact c
  | cl => exact c
  | th => exact c
  | ma => exact c
  | c k => exact c
  | t k => exact c
  | n k => exact c
  | m k => exact c
  | mt k => exact c
  | mc k => exact c
/-- what went -/
theorem Rep.setGone (R : Rep A H L s) {l : List (Nat × Nat)} {ns : List Nat} (e : l.map (·.1) = ns) : Rep A (upd H (L.a .go) (.lst (vints ns))) L { s with went := l } := by
  refine R.put (g0 := .go) trivial (fun g l => .inl (by cases g <;> exact l)) (by rw [← e]; rfl) (fun g o lA lB d c => ?_)
  cases g with
  | go => exact absurd rfl d
  | out => exact c
  | off => exact c
  | cl => exact c
  | th => exact c
  | ma => exact c
  | c k => exact c
  | t k => exact c
  | n k => exact c
  | m k => exact c
  | mt k => exact c
  | mc k => exact c
/-- a class's attributes -/
theorem Rep.setClass (R : Rep A H L s) {i : Nat} {x u : Keep.Class} {dx : Addr} (e : s.classes[i]? = some x) : Rep A (upd H (L.a (.c i)) (.ins A.ThingClass dx (fCls u))) L { s with classes := s.classes.set i u } := by
  refine R.put (g0 := .c i) (List.getElem?_eq_some_iff.mp e).1 (fun g l => .inl (by cases g <;> simpa [live] using l)) (fun t' q => ?_) (fun g o lA lB d c => ?_)
  · rcases get_set e q with ⟨_, rfl⟩ | ⟨z, _⟩
    · exact ⟨dx, rfl⟩
    · exact absurd rfl z
  · cases g with
    | cl => show o = HO.lst ((List.range (s.classes.set i u).length).map _); rw [List.length_set]; exact c
    | c j =>
      intro t' q
      rcases get_set e q with ⟨rfl, rfl⟩ | ⟨_, z⟩
      · exact absurd rfl d
      · exact c t' z
    | out => exact c
    | go => exact c
    | off => exact c
    | th => exact c
    | ma => exact c
    | t k => exact c
    | n k => exact c
    | m k => exact c
    | mt k => exact c
    | mc k => exact c
theorem live_setM {i : Nat} {u : Keep.Matter} {g : Tag} : live { s with matters := s.matters.set i u } g ↔ live s g := by
  cases g <;> simp [live]
/-- a matter: its own attributes, its dicts -/
theorem Rep.setMatter (R : Rep A H L s) {i : Nat} {x u : Keep.Matter} {dx : Addr} (e : s.matters[i]? = some x) (h1 : u.things = x.things) (h2 : u.classes = x.classes) : Rep A (upd H (L.a (.m i)) (.ins A.Matter dx (fMt u.stands (L.a (.mt i)) (L.a (.mc i))))) L { s with matters := s.matters.set i u } := by
  refine R.put (g0 := .m i) (List.getElem?_eq_some_iff.mp e).1 (fun g l => .inl (live_setM.mp l)) (fun t' q => ?_) (fun g o lA lB d c => ?_)
  · rcases get_set e q with ⟨_, rfl⟩ | ⟨z, _⟩
    · exact ⟨dx, rfl⟩
    · exact absurd rfl z
  · cases g with
    | ma => show o = HO.lst ((List.range (s.matters.set i u).length).map _); rw [List.length_set]; exact c
    | m j =>
      intro t' q
      rcases get_set e q with ⟨rfl, rfl⟩ | ⟨_, z⟩
      · exact absurd rfl d
      · exact c t' z
    | mt j =>
      intro t' q
      rcases get_set e q with ⟨rfl, rfl⟩ | ⟨_, z⟩
      · rw [h1]; exact c x e
      · exact c t' z
    | mc j =>
      intro t' q
      rcases get_set e q with ⟨rfl, rfl⟩ | ⟨_, z⟩
      · rw [h2]; exact c x e
      · exact c t' z
    | out => exact c
    | go => exact c
    | off => exact c
    | cl => exact c
    | th => exact c
    | c k => exact c
    | t k => exact c
    | n k => exact c
theorem Rep.setMt (R : Rep A H L s) {i : Nat} {x : Keep.Matter} {l l' : List Nat} (e : s.matters[i]? = some x) (hp : l.Perm l') : Rep A (upd H (L.a (.mt i)) (.dK (dset l))) L { s with matters := s.matters.set i { x with things := l' } } := by
  refine R.put (g0 := .mt i) (List.getElem?_eq_some_iff.mp e).1 (fun g l => .inl (live_setM.mp l)) (fun t' q => ?_) (fun g o lA lB d c => ?_)
  · rcases get_set e q with ⟨_, rfl⟩ | ⟨z, _⟩
    · exact ⟨l, hp, rfl⟩
    · exact absurd rfl z
  · cases g with
    | ma => show o = HO.lst ((List.range (s.matters.set i _).length).map _); rw [List.length_set]; exact c
    | m j =>
      intro t' q
      rcases get_set e q with ⟨rfl, rfl⟩ | ⟨_, z⟩
      · exact c x e
      · exact c t' z
    | mt j =>
      intro t' q
      rcases get_set e q with ⟨rfl, rfl⟩ | ⟨_, z⟩
      · exact absurd rfl d
      · exact c t' z
    | mc j =>
      intro t' q
      rcases get_set e q with ⟨rfl, rfl⟩ | ⟨_, z⟩
      · exact c x e
      · exact c t' z
    | out => exact c
    | go => exact c
    | off => exact c
    | cl => exact c
    | th => exact c
    | c k => exact c
    | t k => exact c
    | n k => exact c
theorem Rep.setMc (R : Rep A H L s) {i : Nat} {x : Keep.Matter} {l l' : List Nat} (e : s.matters[i]? = some x) (hp : l.Perm l') : Rep A (upd H (L.a (.mc i)) (.dK (dset l))) L { s with matters := s.matters.set i { x with classes := l' } } := by
  refine R.put (g0 := .mc i) (List.getElem?_eq_some_iff.mp e).1 (fun g l => .inl (live_setM.mp l)) (fun t' q => ?_) (fun g o lA lB d c => ?_)
  · rcases get_set e q with ⟨_, rfl⟩ | ⟨z, _⟩
    · exact ⟨l, hp, rfl⟩
    · exact absurd rfl z
  · cases g with
    | ma => show o = HO.lst ((List.range (s.matters.set i _).length).map _); rw [List.length_set]; exact c
    | m j =>
      intro t' q
      rcases get_set e q with ⟨rfl, rfl⟩ | ⟨_, z⟩
      · exact c x e
      · exact c t' z
    | mt j =>
      intro t' q
      rcases get_set e q with ⟨rfl, rfl⟩ | ⟨_, z⟩
      · exact c x e
      · exact c t' z
    | mc j =>
      intro t' q
      rcases get_set e q with ⟨rfl, rfl⟩ | ⟨_, z⟩
      · exact absurd rfl d
      · exact c t' z
    | out => exact c
    | go => exact c
    | off => exact c
    | cl => exact c
    | th => exact c
    | c k => exact c
    | t k => exact c
    | n k => exact c
/-! ### a class, a thing, a matter behind the others -/
theorem get_snoc {α : Type} {l : List α} {j : Nat} {u v : α} (h : (l ++ [u])[j]? = some v) : (j = l.length ∧ v = u) ∨ (j < l.length ∧ l[j]? = some v) := by
  rcases Nat.lt_or_ge j l.length with c | c
  · rw [List.getElem?_append_left c] at h
    exact .inr ⟨c, h⟩
  · rw [List.getElem?_append_right c] at h
    obtain ⟨h1, h2⟩ := List.getElem?_eq_some_iff.mp h
    have : j - l.length < 1 := h1
    have e : j = l.length := by omega
    subst e
    refine .inl ⟨rfl, ?_⟩
    rw [Nat.sub_self] at h
    exact (Option.some.inj h).symm
theorem refs_snoc (n : Nat) (f : Nat → Addr) : ((List.range n).map fun i => V.ref (f i)) ++ [V.ref (f n)] = (List.range (n + 1)).map fun i => V.ref (f i) := by
  rw [List.range_succ, List.map_append]
  rfl
theorem Rep.pushClass (R : Rep A H L s) {p dx : Addr} {u : Keep.Class} (hp : L.g p = .out) (h : H p = some (.ins A.ThingClass dx (fCls u))) :
    Rep A (upd H (L.a .cl) (.lst (((List.range s.classes.length).map fun i => V.ref (L.a (.c i))) ++ [V.ref p]))) (L.add (.c s.classes.length) p) { s with classes := s.classes ++ [u] } := by
  have nl : ¬ live s (.c s.classes.length) := Nat.lt_irrefl _
  have R1 := R.add (g := .c s.classes.length) nl hp h
  have ecl : (L.add (.c s.classes.length) p).a .cl = L.a .cl := add_ne (by intro q; cases q)
  have ep : (L.add (.c s.classes.length) p).a (.c s.classes.length) = p := add_at
  have e1 : (((List.range s.classes.length).map fun i => V.ref (L.a (.c i))) ++ [V.ref p]) = (List.range (s.classes.length + 1)).map fun i => V.ref ((L.add (.c s.classes.length) p).a (.c i)) := by
    rw [← refs_snoc _ (fun i => (L.add (.c s.classes.length) p).a (.c i)), ep]
    congr 1
    apply List.map_congr_left
    intro i hi
    rw [add_ne]
    intro q
    cases q
    exact absurd (List.mem_range.mp hi) (Nat.lt_irrefl _)
  rw [e1, ← ecl]
  refine R1.put (g0 := .cl) trivial (fun g l => ?_) ?_ (fun g o lA lB d c => ?_)
  · by_cases q : g = .c s.classes.length
    · subst q
      right
      rw [ep]
      refine ⟨(by intro q; cases q), fun q => R.apart (g := .cl) trivial hp (by rw [q, ecl]), add_g, _, h, fun c' q => ?_⟩
      rcases get_snoc q with ⟨_, rfl⟩ | ⟨z, _⟩
      · exact ⟨dx, rfl⟩
      · exact absurd z (Nat.lt_irrefl _)
    · left
      cases g with
      | c k =>
        have l' : k < (s.classes ++ [u]).length := l
        rw [List.length_append] at l'
        have : k ≠ s.classes.length := fun z => q (by rw [z])
        show k < s.classes.length
        have : [u].length = 1 := rfl
        omega
      | out => exact l
      | go => exact l
      | off => exact l
      | cl => exact l
      | th => exact l
      | ma => exact l
      | t k => exact l
      | n k => exact l
      | m k => exact l
      | mt k => exact l
      | mc k => exact l
  · show HO.lst _ = HO.lst ((List.range (s.classes ++ [u]).length).map _)
    rw [List.length_append]
    rfl
  · cases g with
    | cl => exact absurd rfl d
    | c j =>
      intro c' q
      rcases get_snoc q with ⟨z, rfl⟩ | ⟨z, q'⟩
      · have l1' : j < s.classes.length := lA
        omega
      · exact c c' q'
    | out => exact c
    | go => exact c
    | off => exact c
    | th => exact c
    | ma => exact c
    | t k => exact c
    | n k => exact c
    | m k => exact c
    | mt k => exact c
    | mc k => exact c
theorem Rep.pushThing (R : Rep A H L s) {p q dx : Addr} {u : Keep.Thing} (hp : L.g p = .out) (hq : L.g q = .out) (hpq : p ≠ q) (h : H p = some (.ins A.Thing dx (fTh u q))) (h' : H q = some (.lst (vints u.needs))) :
    Rep A (upd H (L.a .th) (.lst (((List.range s.things.length).map fun i => V.ref (L.a (.t i))) ++ [V.ref p]))) ((L.add (.t s.things.length) p).add (.n s.things.length) q) { s with things := s.things ++ [u] } := by
  have R1 := R.add (g := .t s.things.length) (Nat.lt_irrefl _) hp h
  have hq1 : (L.add (.t s.things.length) p).g q = .out := by rw [add_gne (Ne.symm hpq)]; exact hq
  have R2 := R1.add (g := .n s.things.length) (Nat.lt_irrefl _) hq1 h'
  generalize eL : (L.add (.t s.things.length) p).add (.n s.things.length) q = L2 at R2
  have an : ∀ g, g ≠ .t s.things.length → g ≠ .n s.things.length → L2.a g = L.a g := fun g z z' => by rw [← eL, add_ne z', add_ne z]
  have at' : L2.a (.t s.things.length) = p := by rw [← eL, add_ne (by intro z; cases z), add_at]
  have an' : L2.a (.n s.things.length) = q := by rw [← eL, add_at]
  have gp : L2.g p = .t s.things.length := by rw [← eL, add_gne hpq, add_g]
  have gq : L2.g q = .n s.things.length := by rw [← eL, add_g]
  have ecl : L2.a .th = L.a .th := an _ (by intro z; cases z) (by intro z; cases z)
  have e1 : (((List.range s.things.length).map fun i => V.ref (L.a (.t i))) ++ [V.ref p]) = (List.range (s.things.length + 1)).map fun i => V.ref (L2.a (.t i)) := by
    rw [← refs_snoc _ (fun i => L2.a (.t i)), at']
    congr 1
    apply List.map_congr_left
    intro i hi
    rw [an]
    · intro z
      cases z
      exact absurd (List.mem_range.mp hi) (Nat.lt_irrefl _)
    · intro z; cases z
  rw [e1, ← ecl]
  refine R2.put (g0 := .th) trivial (fun g l => ?_) ?_ (fun g o lA lB d c => ?_)
  · by_cases z : g = .t s.things.length
    · subst z
      right
      rw [at']
      refine ⟨(by intro q; cases q), fun z => R.apart (g := .th) trivial hp (by rw [z, ecl]), gp, _, h, fun c' z => ?_⟩
      rcases get_snoc z with ⟨_, rfl⟩ | ⟨z, _⟩
      · exact ⟨dx, by rw [an']⟩
      · exact absurd z (Nat.lt_irrefl _)
    · by_cases z2 : g = .n s.things.length
      · subst z2
        right
        rw [an']
        refine ⟨(by intro q; cases q), fun z => R.apart (g := .th) trivial hq (by rw [z, ecl]), gq, _, h', fun c' z => ?_⟩
        rcases get_snoc z with ⟨_, rfl⟩ | ⟨z, _⟩
        · exact ⟨_, List.Perm.refl _, rfl⟩
        · exact absurd z (Nat.lt_irrefl _)
      · left
        cases g with
        | t k =>
          have l' : k < (s.things ++ [u]).length := l
          rw [List.length_append] at l'
          have : k ≠ s.things.length := fun q => z (by rw [q])
          show k < s.things.length
          have : [u].length = 1 := rfl
          omega
        | n k =>
          have l' : k < (s.things ++ [u]).length := l
          rw [List.length_append] at l'
          have : k ≠ s.things.length := fun q => z2 (by rw [q])
          show k < s.things.length
          have : [u].length = 1 := rfl
          omega
        | out => exact l
        | go => exact l
        | off => exact l
        | cl => exact l
        | th => exact l
        | ma => exact l
        | c k => exact l
        | m k => exact l
        | mt k => exact l
        | mc k => exact l
  · show HO.lst _ = HO.lst ((List.range (s.things ++ [u]).length).map _)
    rw [List.length_append]
    rfl
  · cases g with
    | th => exact absurd rfl d
    | t j =>
      intro c' z
      rcases get_snoc z with ⟨z, rfl⟩ | ⟨z, q'⟩
      · have l1' : j < s.things.length := lA
        omega
      · exact c c' q'
    | n j =>
      intro c' z
      rcases get_snoc z with ⟨z, rfl⟩ | ⟨z, q'⟩
      · have l1' : j < s.things.length := lA
        omega
      · exact c c' q'
    | out => exact c
    | go => exact c
    | off => exact c
    | cl => exact c
    | ma => exact c
    | c k => exact c
    | m k => exact c
    | mt k => exact c
    | mc k => exact c
theorem Rep.pushMatter (R : Rep A H L s) {p q r dx : Addr} {u : Keep.Matter} {l1 l2 : List Nat} (hp : L.g p = .out) (hq : L.g q = .out) (hr : L.g r = .out) (hpq : p ≠ q) (hpr : p ≠ r) (hqr : q ≠ r) (h : H p = some (.ins A.Matter dx (fMt u.stands q r)))
    (h' : H q = some (.dK (dset l1))) (p1 : l1.Perm u.things) (h'' : H r = some (.dK (dset l2))) (p2 : l2.Perm u.classes) :
    Rep A (upd H (L.a .ma) (.lst (((List.range s.matters.length).map fun i => V.ref (L.a (.m i))) ++ [V.ref p]))) (((L.add (.m s.matters.length) p).add (.mt s.matters.length) q).add (.mc s.matters.length) r) { s with matters := s.matters ++ [u] } := by
  have R1 := R.add (g := .m s.matters.length) (Nat.lt_irrefl _) hp h
  have hq1 : (L.add (.m s.matters.length) p).g q = .out := by rw [add_gne (Ne.symm hpq)]; exact hq
  have R2 := R1.add (g := .mt s.matters.length) (Nat.lt_irrefl _) hq1 h'
  have hr1 : ((L.add (.m s.matters.length) p).add (.mt s.matters.length) q).g r = .out := by rw [add_gne (Ne.symm hqr), add_gne (Ne.symm hpr)]; exact hr
  have R3 := R2.add (g := .mc s.matters.length) (Nat.lt_irrefl _) hr1 h''
  generalize eL : ((L.add (.m s.matters.length) p).add (.mt s.matters.length) q).add (.mc s.matters.length) r = L2 at R3
  have an : ∀ g, g ≠ .m s.matters.length → g ≠ .mt s.matters.length → g ≠ .mc s.matters.length → L2.a g = L.a g := fun g z z' z'' => by rw [← eL, add_ne z'', add_ne z', add_ne z]
  have at' : L2.a (.m s.matters.length) = p := by rw [← eL, add_ne (by intro z; cases z), add_ne (by intro z; cases z), add_at]
  have an' : L2.a (.mt s.matters.length) = q := by rw [← eL, add_ne (by intro z; cases z), add_at]
  have an'' : L2.a (.mc s.matters.length) = r := by rw [← eL, add_at]
  have gp : L2.g p = .m s.matters.length := by rw [← eL, add_gne hpr, add_gne hpq, add_g]
  have gq : L2.g q = .mt s.matters.length := by rw [← eL, add_gne hqr, add_g]
  have gr : L2.g r = .mc s.matters.length := by rw [← eL, add_g]
  have ecl : L2.a .ma = L.a .ma := an _ (by intro z; cases z) (by intro z; cases z) (by intro z; cases z)
  have e1 : (((List.range s.matters.length).map fun i => V.ref (L.a (.m i))) ++ [V.ref p]) = (List.range (s.matters.length + 1)).map fun i => V.ref (L2.a (.m i)) := by
    rw [← refs_snoc _ (fun i => L2.a (.m i)), at']
    congr 1
    apply List.map_congr_left
    intro i hi
    rw [an]
    · intro z
      cases z
      exact absurd (List.mem_range.mp hi) (Nat.lt_irrefl _)
    · intro z; cases z
    · intro z; cases z
  rw [e1, ← ecl]
  refine R3.put (g0 := .ma) trivial (fun g l => ?_) ?_ (fun g o lA lB d c => ?_)
  · by_cases z : g = .m s.matters.length
    · subst z
      right
      rw [at']
      refine ⟨(by intro q; cases q), fun z => R.apart (g := .ma) trivial hp (by rw [z, ecl]), gp, _, h, fun c' z => ?_⟩
      rcases get_snoc z with ⟨_, rfl⟩ | ⟨z, _⟩
      · exact ⟨dx, by rw [an', an'']⟩
      · exact absurd z (Nat.lt_irrefl _)
    · by_cases z2 : g = .mt s.matters.length
      · subst z2
        right
        rw [an']
        refine ⟨(by intro q; cases q), fun z => R.apart (g := .ma) trivial hq (by rw [z, ecl]), gq, _, h', fun c' z => ?_⟩
        rcases get_snoc z with ⟨_, rfl⟩ | ⟨z, _⟩
        · exact ⟨l1, p1, rfl⟩
        · exact absurd z (Nat.lt_irrefl _)
      · by_cases z3 : g = .mc s.matters.length
        · subst z3
          right
          rw [an'']
          refine ⟨(by intro q; cases q), fun z => R.apart (g := .ma) trivial hr (by rw [z, ecl]), gr, _, h'', fun c' z => ?_⟩
          rcases get_snoc z with ⟨_, rfl⟩ | ⟨z, _⟩
          · exact ⟨l2, p2, rfl⟩
          · exact absurd z (Nat.lt_irrefl _)
        · left
          have lt : ∀ k, k < (s.matters ++ [u]).length → k ≠ s.matters.length → k < s.matters.length := fun k l' z => by
            rw [List.length_append] at l'
            have : [u].length = 1 := rfl
            omega
          cases g with
          | m k => exact lt k l fun q => z (by rw [q])
          | mt k => exact lt k l fun q => z2 (by rw [q])
          | mc k => exact lt k l fun q => z3 (by rw [q])
          | out => exact l
          | go => exact l
          | off => exact l
          | cl => exact l
          | th => exact l
          | ma => exact l
          | c k => exact l
          | t k => exact l
          | n k => exact l
  · show HO.lst _ = HO.lst ((List.range (s.matters ++ [u]).length).map _)
    rw [List.length_append]
    rfl
  · have old : ∀ j (x : Keep.Matter), j < s.matters.length → (s.matters ++ [u])[j]? = some x → s.matters[j]? = some x := fun j x l z => by
      rw [List.getElem?_append_left l] at z
      exact z
    cases g with
    | ma => exact absurd rfl d
    | m j => exact fun x z => c x (old j x lA z)
    | mt j => exact fun x z => c x (old j x lA z)
    | mc j => exact fun x z => c x (old j x lA z)
    | out => exact c
    | go => exact c
    | off => exact c
    | cl => exact c
    | th => exact c
    | c k => exact c
    | t k => exact c
    | n k => exact c
end
/-! ### reading -/
section
variable {A : Adr} {H : Hp} {L : Lo} {s : Keep.State}
theorem refs_get {n i : Nat} {f : Nat → Addr} (h : i < n) : ((List.range n).map fun i => V.ref (f i))[i]? = some (V.ref (f i)) := by
  rw [List.getElem?_map, List.getElem?_range h]
  rfl
theorem refs_len {n : Nat} {f : Nat → Addr} : ((List.range n).map fun i => V.ref (f i)).length = n := by simp
theorem vints_get {l : List Nat} {i : Nat} {v : V} (h : (vints l)[i]? = some v) : ∃ n, l[i]? = some n ∧ v = V.int (n : Int) := by
  unfold vints at h
  rw [List.getElem?_map] at h
  cases e : l[i]? with
  | none => rw [e] at h; cases h
  | some n => rw [e] at h; exact ⟨n, rfl, (Option.some.inj h).symm⟩
theorem vints_len (l : List Nat) : (vints l).length = l.length := by unfold vints; simp
theorem dset_len (l : List Nat) : (dset l).length = l.length := by unfold dset; simp
theorem dset_val (x : Nat) : ∀ l : List Nat, valV (dset l) (Sum.inl (x : Int)) = if x ∈ l then some (V.bl true) else none
  | [] => rfl
  | a :: l => by
    by_cases c : a = x
    · subst c
      rw [if_pos (List.mem_cons_self ..)]
      exact valV_pos rfl
    · have e : valV (dset (a :: l)) (Sum.inl (x : Int)) = valV (dset l) (Sum.inl (x : Int)) := valV_neg (by intro q; apply c; have := Sum.inl.inj q; omega)
      rw [e, dset_val x l]
      by_cases d : x ∈ l
      · rw [if_pos d, if_pos (List.mem_cons_of_mem _ d)]
      · rw [if_neg d, if_neg]
        intro q
        rcases List.mem_cons.mp q with q | q
        · exact c q.symm
        · exact d q
theorem dset_put (l : List Nat) (x : Nat) : putK (dset l) (Sum.inl (x : Int)) (V.bl true) = dset (if x ∈ l then l else l ++ [x]) := by
  by_cases c : x ∈ l
  · rw [if_pos c]
    unfold putK
    rw [valV_any, dset_val, if_pos c]
    rw [if_pos (show (some (V.bl true)).isSome = true from rfl)]
    unfold dset
    rw [List.map_map]
    apply List.map_congr_left
    intro a _
    show (if (Sum.inl (a : Int) : Key) = Sum.inl (x : Int) then _ else _) = _
    split <;> rfl
  · rw [if_neg c, putK_new _ (by rw [dset_val, if_neg c])]
    unfold dset
    rw [List.map_append]
    rfl
end
end KB

set_option Elab.async false
set_option linter.all false
set_option autoImplicit false
set_option maxRecDepth 100000
set_option maxHeartbeats 2000000
namespace KB
open PySem PySem.Spec PyProof.Rows L2
/-! ### a def of the text -/
structure DefIn (K : PySem.W.Frag) (mg : Str → Option Value) (x : Str) (st : Stmt) (ps : List Str) : Prop where
  ex : ∃ f fd, Fun K x x st f fd ∧ mg x = some (.ref f) ∧ Binds K fd ps []
section
variable {P : Program} {w : World} {K : PySem.W.Frag} {mg : Str → Option Value} {base : Heap} {A : Adr}
theorem Callee.of {x : Str} {st : Stmt} {N ps : List Str} {k : Nat} {sp : Sp} (D : DefIn K mg x st ps) (S : FnScope N ps (defScope st)) (len : ∀ vs H Q E, sp vs H Q E → vs.length = ps.length)
    (hbody : ∀ (f : Addr) (cdv : Value) (A : Around) (outer : List Env) (s : Shared) (H : Hp) (vs : List V) (Q : VK) (E : XK), Room k (A.deeper (envOfC x (defScope st) s.heap.objs.size f cdv)) → sp vs H Q E →
      ∃ t, PSs (cxOf CX0 P w K mg base N x (defScope st) f cdv A outer s H E).nox (defBody st) t ∧ t { nx := fun _ H' => Q .non H', rt := Q } (start N vs) H) : Callee P w K mg base x (k + 1) ps sp := by
  obtain ⟨f, fd, F, m, b⟩ := D.ex
  exact ⟨f, fd, F.ok S len fun cdv A outer s H vs Q E => hbody f cdv A outer s H vs Q E, m, F.kp, b⟩
/-! ### is_here -/
def spIsHere (A : Adr) : Sp := fun vs H Q _ => ∃ L s, ∃ x : Nat, Rep A H L s ∧ vs = [.ref (L.a .off), .int x] ∧ Q (.bl (s.here x)) H
theorem here_some {s : Keep.State} {x : Nat} {t : Keep.Thing} (e : s.things[x]? = some t) : s.here x = t.gone.isNone := by
  unfold Keep.State.here Keep.State.thing
  rw [e]
  rfl
theorem here_none {s : Keep.State} {x : Nat} (e : s.things.length ≤ x) : s.here x = false := by
  unfold Keep.State.here Keep.State.thing
  rw [List.getElem?_eq_none e]
  rfl
theorem get_some {α : Type} {l : List α} {i : Nat} (h : i < l.length) : ∃ t, l[i]? = some t := ⟨_, List.getElem?_eq_getElem h⟩
theorem ok_is_here (T : Txt K mg A) (D : DefIn K mg "is_here" s_is_here ["office", "x"]) : Callee P w K mg base "is_here" 1 ["office", "x"] (spIsHere A) := by
  refine Callee.of D sc_is_here (fun vs H Q E h => ?_) (fun f cdv Ar outer sh H vs Q E hr h => ?_)
  · obtain ⟨_, _, _, _, rfl, _⟩ := h
    rfl
  · obtain ⟨L, s, x, R, rfl, q⟩ := h
    obtain ⟨dx, ho⟩ := R.off
    refine ⟨_, (pss_one (ps_ret (pe_and (pe_cmpR op_lt (pv 1) (pe_callB call_len_seq rfl T.b_len bt_len (pa_cons (pe_fld (pv 0) rfl) pa_nil)) (nomark _)) (pe_one (pe_fld (pe_ix ix_list (pe_fld (pv 0) rfl) (pv 1) (fun _ _ => rfl)) rfl))))), ?_⟩
    refine ⟨_, rfl, _, rfl, _, _, dx, _, _, rfl, ho, T.cl_Office, T.n_Office_things, rfl, _, _, rfl, .inl (SqL.of R.th), _, _, rfl, rfl, _, rfl, ?_⟩
    rw [refs_len]
    refine ite2 (fun c => ?_) (fun c => ?_)
    · have c' : x < s.things.length := by have := of_decide_eq_true c; omega
      obtain ⟨t, e⟩ := get_some c'
      obtain ⟨dt, ht⟩ := R.t e
      rw [here_some e] at q
      exact ⟨_, rfl, _, _, dx, _, _, rfl, ho, T.cl_Office, T.n_Office_things, rfl, _, rfl, _, _, _, _, rfl, rfl, SqL.of R.th, atI_nat (refs_get c'), _, _, dt, _, _, rfl, ht, T.cl_Thing, T.n_Thing_here, rfl, q⟩
    · have c' : s.things.length ≤ x := by
        rcases Nat.lt_or_ge x s.things.length with z | z
        · exact absurd (decide_eq_true (by omega)) c
        · exact z
      rw [here_none c'] at q
      exact q
end
end KB

set_option Elab.async false
set_option linter.all false
set_option autoImplicit false
set_option maxRecDepth 100000
set_option maxHeartbeats 2000000
namespace KB
open PySem PySem.Spec PyProof.Rows L2
theorem dset_has {l l' : List Nat} {x : Nat} (p : l.Perm l') : (valV (dset l) (Sum.inl (x : Int))).isSome = l'.contains x := by
  rw [dset_val]
  by_cases c : x ∈ l
  · rw [if_pos c, List.contains_iff_mem.mpr (p.mem_iff.mp c)]
    rfl
  · rw [if_neg c]
    cases q : l'.contains x with
    | false => rfl
    | true => exact absurd (p.mem_iff.mpr (List.contains_iff_mem.mp q)) c
theorem refs_at {n i : Nat} {f : Nat → Addr} {v : V} (h : ((List.range n).map fun i => V.ref (f i))[i]? = some v) : i < n ∧ v = V.ref (f i) := by
  have l := (List.getElem?_eq_some_iff.mp h).1
  rw [refs_len] at l
  rw [refs_get l] at h
  exact ⟨l, (Option.some.inj h).symm⟩
theorem take_succ {α : Type} {l : List α} {i : Nat} {x : α} (h : l[i]? = some x) : l.take (i + 1) = l.take i ++ [x] := by
  rw [List.take_succ, h]
  rfl
theorem any_take {α : Type} {l : List α} {i : Nat} {x : α} {p : α → Bool} (h : l[i]? = some x) (a : (l.take i).any p = false) (b : p x = false) : (l.take (i + 1)).any p = false := by
  rw [take_succ h, List.any_append, a, List.any_cons, b]
  rfl
section
variable {P : Program} {w : World} {K : PySem.W.Frag} {mg : Str → Option Value} {base : Heap} {A : Adr}
/-! ### is_held -/
def heldBy (t : Keep.Thing) (x : Nat) (m : Keep.Matter) : Bool := m.stands && (m.things.contains x || m.classes.contains t.cls)
theorem held_eq {s : Keep.State} {x : Nat} {t : Keep.Thing} (e : s.things[x]? = some t) : s.held x = s.matters.any (heldBy t x) := by
  unfold Keep.State.held Keep.State.thing
  rw [e]
  rfl
def spIsHeld (A : Adr) : Sp := fun vs H Q _ => ∃ L s, ∃ x : Nat, Rep A H L s ∧ vs = [.ref (L.a .off), .int x] ∧ x < s.things.length ∧ Q (.bl (s.held x)) H
theorem ok_is_held (T : Txt K mg A) (D : DefIn K mg "is_held" s_is_held ["office", "x"]) : Callee P w K mg base "is_held" 1 ["office", "x"] (spIsHeld A) := by
  refine Callee.of D sc_is_held (fun vs H Q E h => ?_) (fun f cdv Ar outer sh H vs Q E hr h => ?_)
  · obtain ⟨_, _, _, _, rfl, _⟩ := h
    rfl
  · obtain ⟨L, s, x, R, rfl, hx, q⟩ := h
    obtain ⟨dx, ho⟩ := R.off
    obtain ⟨t, e⟩ := get_some hx
    obtain ⟨dt, ht⟩ := R.t e
    rw [held_eq e] at q
    refine ⟨_, (pss_cons (ps_set (i := 2) sc_is_held.nd rfl (by first | exact Or.inl rfl | exact Or.inr rfl) (pe_fld (pe_ix ix_list (pe_fld (pv 0) rfl) (pv 1) (fun _ _ => rfl)) rfl))
      (pss_cons (ps_for PassesOwn.never rfl (pi_list (pe_fld (pv 0) rfl)) (pg_name (i := 3) sc_is_held.nd rfl (by first | exact Or.inl rfl | exact Or.inr rfl)) (pss_one (ps_if (PW.pt (pw_and (pt_val (pe_fld (pv 3) rfl)) (pw_and1 (PW.pt (pw_or (pt_cmp (pc_din (hu_of hr) (pv 1) (pe_fld (pv 3) rfl))) (pw_or1 (pt_cmp (pc_din (hu_of hr) (pv 2) (pe_fld (pv 3) rfl))))))))) (pss_one (ps_ret pe_bl)) pss_nil)))
      (pss_one (ps_ret pe_bl)))), ?_⟩
    refine ⟨_, rfl, _, _, dx, _, _, rfl, ho, T.cl_Office, T.n_Office_things, rfl, _, rfl, _, _, _, _, rfl, rfl, SqL.of R.th, atI_nat (refs_get hx), _, _, dt, _, _, rfl, ht, T.cl_Thing, T.n_Thing_which, rfl, ?_⟩
    refine ⟨_, rfl, _, _, dx, _, _, rfl, ho, T.cl_Office, T.n_Office_matters, rfl, _, rfl, ⟨_, SqL.of R.ma⟩, for_list (K := K) (a := L.a .ma) (xs := (List.range s.matters.length).map fun i => V.ref (L.a (.m i)))
      (fun i σ H' => ∃ v : Option V, H' = H ∧ σ = [some (.ref (L.a .off)), some (.int x), some (.int t.cls), v] ∧ (s.matters.take i).any (heldBy t x) = false) ⟨none, rfl, rfl, rfl⟩ (fun i σ H' _ ⟨_, e1, _⟩ => by rw [e1]; exact SqL.of R.ma) ?_ ?_⟩
    · rintro i y σ H' hi ⟨v, rfl, rfl, ha⟩
      obtain ⟨li, rfl⟩ := refs_at hi
      obtain ⟨m, em⟩ := get_some li
      obtain ⟨dm, hm⟩ := R.m em
      obtain ⟨l1, p1, h1⟩ := R.mt em
      obtain ⟨l2, p2, h2⟩ := R.mc em
      have yes : (m.stands && (m.things.contains x || m.classes.contains t.cls)) = true → s.matters.any (heldBy t x) = true := fun z => List.any_eq_true.mpr ⟨m, List.mem_of_getElem? em, z⟩
      have no : (m.stands && (m.things.contains x || m.classes.contains t.cls)) = false → (s.matters.take (i + 1)).any (heldBy t x) = false := fun z => any_take em ha z
      refine ⟨_, rfl, _, _, dm, _, _, rfl, hm, T.cl_Matter, T.n_Matter_stands, rfl, _, rfl, ?_⟩
      cases hs : m.stands with
      | false =>
        rw [hs] at no
        exact iteF (iteF ⟨_, rfl, rfl, no rfl⟩)
      | true =>
        rw [hs] at yes no
        refine iteT ⟨_, rfl, _, rfl, _, _, dm, _, _, rfl, hm, T.cl_Matter, T.n_Matter_things, rfl, _, _, rfl, DGet.k (k := Sum.inl x) h1, _, rfl, ?_⟩
        rw [dset_has p1]
        cases hc : m.things.contains x with
        | true =>
          rw [hc] at yes
          rw [yes rfl] at q
          exact iteT (iteT q)
        | false =>
          rw [hc] at yes no
          refine iteF ⟨_, rfl, _, rfl, _, _, dm, _, _, rfl, hm, T.cl_Matter, T.n_Matter_classes, rfl, _, _, rfl, DGet.k (k := Sum.inl t.cls) h2, _, rfl, ?_⟩
          rw [dset_has p2]
          cases hd : m.classes.contains t.cls with
          | true =>
            rw [hd] at yes
            rw [yes rfl] at q
            exact iteT q
          | false =>
            rw [hd] at no
            exact iteF ⟨_, rfl, rfl, no rfl⟩
    · rintro σ H' ⟨v, rfl, rfl, ha⟩
      rw [refs_len, List.take_length] at ha
      rw [ha] at q
      exact q
/-! ### kept_by_itself -/
def spOwn (A : Adr) : Sp := fun vs H Q _ => ∃ L s, ∃ x : Nat, Rep A H L s ∧ vs = [.ref (L.a .off), .int x] ∧ s.here x = true ∧ Q (.bl (s.own s.now x)) H
theorem own_eq {s : Keep.State} {m x : Nat} {t : Keep.Thing} (e : s.things[x]? = some t) : s.own m x = (t.gone.isNone && (decide (m < t.due) || s.held x)) := by
  unfold Keep.State.own Keep.State.thing
  rw [e]
  rfl
theorem ok_kept_by_itself (T : Txt K mg A) (D : DefIn K mg "kept_by_itself" s_kept_by_itself ["office", "x"]) (c_is_held : Callee P w K mg base "is_held" 1 ["office", "x"] (spIsHeld A)) : Callee P w K mg base "kept_by_itself" 2 ["office", "x"] (spOwn A) := by
  refine Callee.of D sc_kept_by_itself (fun vs H Q E h => ?_) (fun f cdv Ar outer sh H vs Q E hr h => ?_)
  · obtain ⟨_, _, _, _, rfl, _⟩ := h
    rfl
  · obtain ⟨L, s, x, R, rfl, hh, q⟩ := h
    obtain ⟨dx, ho⟩ := R.off
    have hx := KM.here_lt hh
    obtain ⟨t, e, hg⟩ := KM.here_iff.mp hh
    obtain ⟨dt, ht⟩ := R.t e
    rw [own_eq e, hg] at q
    refine ⟨_, (pss_one (ps_ret (pe_or (pe_cmpR op_lt (pe_fld (pv 0) rfl) (pe_fld (pe_ix ix_list (pe_fld (pv 0) rfl) (pv 1) (fun _ _ => rfl)) rfl) (nomark _)) (pe_one (pe_callC c_is_held (hr.mono (by decide)) rfl (pa_cons (pv 0) (pa_cons (pv 1) pa_nil))))))), ?_⟩
    refine ⟨_, rfl, _, _, dx, _, _, rfl, ho, T.cl_Office, T.n_Office_moment, rfl, _, rfl, _, _, dx, _, _, rfl, ho, T.cl_Office, T.n_Office_things, rfl, _, rfl, _, _, _, _, rfl, rfl, SqL.of R.th, atI_nat (refs_get hx), _, _, dt, _, _, rfl, ht, T.cl_Thing, T.n_Thing_due, rfl, _, _, rfl, rfl, _, rfl, ?_⟩
    refine ite2 (fun c => ?_) (fun c => ?_)
    · rw [decide_eq_true (show s.now < t.due by have := of_decide_eq_true c; omega)] at q
      exact q
    · rw [decide_eq_false (show ¬ s.now < t.due by intro z; exact c (decide_eq_true (by omega)))] at q
      exact ⟨_, rfl, _, rfl, L, s, x, R, rfl, hx, q⟩
end
end KB

set_option Elab.async false
set_option linter.all false
set_option autoImplicit false
set_option maxRecDepth 100000
set_option maxHeartbeats 2000000
namespace KB
open PySem PySem.Spec PyProof.Rows L2
theorem Rep.same {A : Adr} {H H' : Hp} {L : Lo} {s : Keep.State} (R : Rep A H L s) (S : Same H H') : Rep A H' L s := R.stay (fun g o _ e => S _ _ e) fun b h => R.owx b (by
  cases q : H b with
  | none => trivial
  | some o => rw [S b o q] at h; exact h)
theorem sameNew {H H' : Hp} {p : Addr} {o : HO} (S : Same H H') (h : H p = none) : Same H (upd H' p o) := fun b u e => by
  rw [upd_ne (ne_of_none e h)]
  exact S b u e
/-- put into a set -/
def ins1 (l : List Nat) (x : Nat) : List Nat := if x ∈ l then l else l ++ [x]
theorem mem_ins1 {l : List Nat} {x y : Nat} : y ∈ ins1 l x ↔ y ∈ l ∨ y = x := by
  unfold ins1
  by_cases c : x ∈ l
  · rw [if_pos c]
    exact ⟨.inl, fun h => h.elim id fun e => e ▸ c⟩
  · rw [if_neg c, List.mem_append, List.mem_singleton]
theorem nodup_snoc {l : List Nat} {x : Nat} (h : l.Nodup) (c : x ∉ l) : (l ++ [x]).Nodup := by
  rw [List.nodup_append]
  exact ⟨h, by simp, fun a ha b hb e => c (by rw [← List.mem_singleton.mp hb, ← e]; exact ha)⟩
theorem nodup_ins1 {l : List Nat} {x : Nat} (h : l.Nodup) : (ins1 l x).Nodup := by
  unfold ins1
  by_cases c : x ∈ l
  · rw [if_pos c]; exact h
  · rw [if_neg c]; exact nodup_snoc h c
theorem vints_snoc (l : List Nat) (x : Nat) : vints l ++ [V.int x] = vints (l ++ [x]) := by
  unfold vints
  rw [List.map_append]
  rfl
theorem size256 {n : Nat} (h : n ≤ 256) : n < sizeLine := Nat.lt_of_le_of_lt h (by decide)
/-- kept but for one place -/
def SameX (m : Addr) (H H' : Hp) : Prop := ∀ b o, b ≠ m → H b = some o → H' b = some o
theorem SameX.refl (m : Addr) (H : Hp) : SameX m H H := fun _ _ _ h => h
theorem SameX.trans {m : Addr} {H H1 H2 : Hp} (a : SameX m H H1) (b : SameX m H1 H2) : SameX m H H2 := fun c o n h => b c o n (a c o n h)
theorem SameX.new {m p : Addr} {H H' : Hp} {o : HO} (S : SameX m H H') (h : H p = none) : SameX m H (upd H' p o) := fun b u n e => by
  rw [upd_ne (ne_of_none e h)]
  exact S b u n e
theorem SameX.put {m : Addr} {H H' : Hp} {o : HO} (S : SameX m H H') : SameX m H (upd H' m o) := fun b u n e => by
  rw [upd_ne n]
  exact S b u n e
theorem SameX.same {m : Addr} {H0 H H' : Hp} (a : Same H0 H) (n : H0 m = none) (S : SameX m H H') : Same H0 H' := fun b o e => S b o (ne_of_none e n) (a b o e)
theorem Rep.sameX {A : Adr} {H H' : Hp} {L : Lo} {s : Keep.State} {m : Addr} (R : Rep A H L s) (hm : L.g m = .out) (S : SameX m H H') : Rep A H' L s :=
  R.stay (fun g o l e => S _ _ (R.apart l hm) e) fun b h => by
    by_cases c : b = m
    · rw [c]; exact hm
    · refine R.owx b ?_
      cases q : H b with
      | none => trivial
      | some o => rw [S b o c q] at h; exact h
/-- a dict whose keys are things -/
def mp (l : List (Nat × V)) : List (Key × V) := l.map fun q => (Sum.inl (q.1 : Int), q.2)
theorem mp_len (l : List (Nat × V)) : (mp l).length = l.length := by unfold mp; simp
theorem mp_val (x : Nat) : ∀ l : List (Nat × V), valV (mp l) (Sum.inl (x : Int)) = l.lookup x
  | [] => rfl
  | (a, v) :: l => by
    rw [List.lookup_cons]
    by_cases c : a = x
    · subst c
      rw [beq_self_eq_true]
      exact valV_pos rfl
    · have e : valV (mp ((a, v) :: l)) (Sum.inl (x : Int)) = valV (mp l) (Sum.inl (x : Int)) := valV_neg (by intro q; apply c; have := Sum.inl.inj q; omega)
      rw [e, mp_val x l, show (x == a) = false from beq_eq_false_iff_ne.mpr (Ne.symm c)]
theorem lookup_some {x : Nat} : ∀ {l : List (Nat × V)}, (l.lookup x).isSome = (l.map (·.1)).contains x
  | [] => rfl
  | (a, v) :: l => by
    rw [List.lookup_cons, List.map_cons, List.contains_cons]
    cases h : x == a with
    | true => rfl
    | false => rw [Bool.false_or]; exact lookup_some
theorem lookup_mem {x : Nat} {v : V} : ∀ {l : List (Nat × V)}, (l.map (·.1)).Nodup → (x, v) ∈ l → l.lookup x = some v
  | [], _, h => by simp at h
  | (a, u) :: l, nd, h => by
    rw [List.map_cons, List.nodup_cons] at nd
    rw [List.lookup_cons]
    rcases List.mem_cons.mp h with e | h
    · cases e
      rw [beq_self_eq_true]
    · have : x ≠ a := fun e => nd.1 (by rw [← e]; exact List.mem_map.mpr ⟨(x, v), h, rfl⟩)
      rw [show (x == a) = false from beq_eq_false_iff_ne.mpr this]
      exact lookup_mem nd.2 h
theorem mp_put {l : List (Nat × V)} {x : Nat} {v : V} (h : x ∉ l.map (·.1)) : putK (mp l) (Sum.inl (x : Int)) v = mp (l ++ [(x, v)]) := by
  rw [putK_new _ (by
    rw [mp_val]
    cases e : l.lookup x with
    | none => rfl
    | some u =>
      have := lookup_some (x := x) (l := l)
      rw [e] at this
      exact absurd (List.contains_iff_mem.mp this.symm) h)]
  unfold mp
  rw [List.map_append]
  rfl
theorem dset_mp (l : List Nat) : dset l = mp (l.map fun n => (n, V.bl true)) := by
  unfold dset mp
  rw [List.map_map]
  rfl
theorem keys_map (l : List Nat) (v : V) : (l.map fun n => (n, v)).map (·.1) = l := by
  rw [List.map_map]
  exact List.map_id' l
section
variable {P : Program} {w : World} {K : PySem.W.Frag} {mg : Str → Option Value} {base : Heap} {A : Adr}
/-! ### things_here -/
def hereL (s : Keep.State) (n : Nat) : List Nat := (List.range n).filter s.here
theorem hereL_succ (s : Keep.State) (n : Nat) : hereL s (n + 1) = hereL s n ++ (if s.here n = true then [n] else []) := by
  unfold hereL
  rw [List.range_succ, List.filter_append, List.filter_cons, List.filter_nil]
theorem hereL_len (s : Keep.State) (n : Nat) : (hereL s n).length ≤ n := by
  have := List.length_filter_le s.here (List.range n)
  rw [List.length_range] at this
  exact this
theorem hereL_nodup (s : Keep.State) (n : Nat) : (hereL s n).Nodup := List.Nodup.sublist List.filter_sublist List.nodup_range
theorem mem_hereL {s : Keep.State} {x : Nat} : x ∈ hereL s s.things.length ↔ s.here x = true :=
  ⟨fun h => (List.mem_filter.mp h).2, fun h => List.mem_filter.mpr ⟨List.mem_range.mpr (KM.here_lt h), h⟩⟩
def spThingsHere (A : Adr) : Sp := fun vs H Q _ => ∃ L s, Rep A H L s ∧ KM.Wf s ∧ vs = [.ref (L.a .off)] ∧ ∀ (H' : Hp) (p : Addr), Same H H' → H p = none → H' p = some (.lst (vints (hereL s s.things.length))) → Q (.ref p) H'
theorem ok_things_here (T : Txt K mg A) (D : DefIn K mg "things_here" s_things_here ["office"]) : Callee P w K mg base "things_here" 1 ["office"] (spThingsHere A) := by
  refine Callee.of D sc_things_here (fun vs H Q E h => ?_) (fun f cdv Ar outer sh H vs Q E hr h => ?_)
  · obtain ⟨_, _, _, _, rfl, _⟩ := h
    rfl
  · obtain ⟨L, s, R, W, rfl, q⟩ := h
    obtain ⟨dx, ho⟩ := R.off
    refine ⟨_, (pss_one (ps_ret (pe_lc rfl sc_things_here.nd (pi_range1 rfl T.b_range (pa_cons (pe_callB call_len_seq rfl T.b_len bt_len (pa_cons (pe_fld (pv 0) rfl) pa_nil)) pa_nil)) (blkOk_by (own := [("x", 1)]) rfl) (fun _ _ _ _ _ => (pg_name (i := 1) sc_things_here.nd rfl (by first | exact Or.inl rfl | exact Or.inr rfl))) (fun _ _ _ _ _ => (pts_one (pt_val (pe_fldK (K := K) rfl (pe_ix (ix_listK (K := K) rfl) (pe_fldK (K := K) rfl (pv 0) rfl) (pv 1) (fun _ _ => rfl)) rfl)))) (fun _ _ _ _ _ => (pv 1))))), ?_⟩
    refine ⟨_, rfl, _, _, dx, _, _, rfl, ho, T.cl_Office, T.n_Office_things, rfl, _, _, rfl, .inl (SqL.of R.th), _, rfl, (by rw [refs_len]; have := W.nth; omega), (by rw [refs_len]; have := W.nth; omega), ?_⟩
    intro D hD
    rw [refs_len]
    refine lc_range (fun i H' => Same H H' ∧ H' D = some (.lst (vints (hereL s i)))) ⟨sameNew (Same.refl H) hD, upd_same⟩ (fun i H' hi ⟨S, hl⟩ => ?_) (fun H1 ⟨S1, hl1⟩ => ?_)
    · have hi' : i < s.things.length := by simpa using hi
      obtain ⟨t, e⟩ := get_some hi'
      have R1 := R.same S
      obtain ⟨dx1, ho1⟩ := R1.off
      obtain ⟨dt, ht⟩ := R1.t e
      rw [Int.zero_add]
      refine ⟨rfl, _, rfl, _, _, dx1, _, _, rfl, ho1, T.cl_Office, T.n_Office_things, rfl, _, rfl, _, _, _, _, rfl, rfl, SqL.of R1.th, atI_nat (refs_get hi'), _, _, dt, _, _, rfl, ht, T.cl_Thing, T.n_Thing_here, rfl, _, rfl, ?_⟩
      have rs := hereL_succ s i
      have hh := here_some e
      cases c : t.gone.isNone with
      | true =>
        rw [hh, c, if_pos rfl] at rs
        refine iteT ⟨_, rfl, _, hl, ?_, sameNew S hD, ?_⟩
        · rw [vints_len]
          exact size256 (Nat.le_trans (hereL_len s i) (Nat.le_trans (Nat.le_of_lt hi') W.nth))
        · rw [upd_same, rs, ← vints_snoc]
      | false =>
        rw [hh, c, if_neg Bool.false_ne_true, List.append_nil] at rs
        exact iteF ⟨S, by rw [rs]; exact hl⟩
    · have hl1 : H1 D = some (.lst (vints (hereL s s.things.length))) := by simpa using hl1
      exact q H1 D S1 hD hl1
/-! ### mark_with_needs -/
structure Mark (s : Keep.State) (x : Nat) (ks wa nw : List Nat) : Prop where
  nd : (ks ++ nw).Nodup
  wl : ∀ y ∈ wa, s.here y = true ∧ KM.Up s y x
  new : ∀ y ∈ nw, s.here y = true ∧ KM.Up s y x
  clo : ∀ y ∈ ks ++ nw, ∀ z ∈ KM.needsOf s y, z ∈ ks ++ nw ∨ z ∈ wa
  root : x ∈ ks ++ nw ∨ x ∈ wa
  len : wa.length ≤ 1 + 16 * nw.length
theorem Mark.start {s : Keep.State} {x : Nat} {ks : List Nat} (nd : ks.Nodup) (c : KM.Clo s ks) (h : s.here x = true) : Mark s x ks [x] [] :=
  ⟨by rw [List.append_nil]; exact nd, fun y hy => by rw [List.mem_singleton.mp hy]; exact ⟨h, .refl _⟩, fun y hy => by simp at hy, fun y hy z hz => .inl (by rw [List.append_nil] at hy ⊢; exact c y hy z hz), .inr (List.mem_singleton.mpr rfl), by simp⟩
theorem Mark.skip {s : Keep.State} {x y : Nat} {ks wl new : List Nat} (h : Mark s x ks (wl ++ [y]) new) (hy : y ∈ ks ++ new) : Mark s x ks wl new := by
  refine ⟨h.nd, fun z hz => h.wl z (List.mem_append.mpr (.inl hz)), h.new, fun z hz u hu => ?_, ?_, ?_⟩
  · rcases h.clo z hz u hu with q | q
    · exact .inl q
    · rcases List.mem_append.mp q with q | q
      · exact .inr q
      · rw [List.mem_singleton.mp q]; exact .inl hy
  · rcases h.root with q | q
    · exact .inl q
    · rcases List.mem_append.mp q with q | q
      · exact .inr q
      · rw [List.mem_singleton.mp q]; exact .inl hy
  · have := h.len
    rw [List.length_append] at this
    omega
theorem needs_here {s : Keep.State} (W : KM.Wf s) {y z : Nat} (hy : s.here y = true) (hz : z ∈ KM.needsOf s y) : s.here z = true := by
  obtain ⟨t, e, g⟩ := KM.here_iff.mp hy
  have hz' : z ∈ t.needs := by
    unfold KM.needsOf Keep.State.thing at hz
    rw [e] at hz
    exact hz
  exact (W.th y t e).here g z hz'
theorem Mark.take {s : Keep.State} {x y : Nat} {ks wl new ns : List Nat} (W : KM.Wf s) (h : Mark s x ks (wl ++ [y]) new) (hy : y ∉ ks ++ new) (hn : ∀ z, z ∈ ns ↔ z ∈ KM.needsOf s y) (hl : ns.length ≤ 16) : Mark s x ks (wl ++ ns) (new ++ [y]) := by
  obtain ⟨hh, hu⟩ := h.wl y (List.mem_append.mpr (.inr (List.mem_singleton.mpr rfl)))
  have sub : ∀ z, z ∈ ks ++ new → z ∈ ks ++ (new ++ [y]) := fun z hz => by rw [← List.append_assoc]; exact List.mem_append.mpr (.inl hz)
  have me : y ∈ ks ++ (new ++ [y]) := by rw [← List.append_assoc]; exact List.mem_append.mpr (.inr (List.mem_singleton.mpr rfl))
  refine ⟨?_, fun z hz => ?_, fun z hz => ?_, fun z hz u hu' => ?_, ?_, ?_⟩
  · rw [← List.append_assoc]
    exact nodup_snoc h.nd hy
  · rcases List.mem_append.mp hz with q | q
    · exact h.wl z (List.mem_append.mpr (.inl q))
    · have q' := (hn z).mp q
      exact ⟨needs_here W hh q', .step hh q' hu⟩
  · rcases List.mem_append.mp hz with q | q
    · exact h.new z q
    · rw [List.mem_singleton.mp q]; exact ⟨hh, hu⟩
  · rw [← List.append_assoc] at hz
    rcases List.mem_append.mp hz with q | q
    · rcases h.clo z q u hu' with r | r
      · exact .inl (sub u r)
      · rcases List.mem_append.mp r with r | r
        · exact .inr (List.mem_append.mpr (.inl r))
        · rw [List.mem_singleton.mp r]; exact .inl me
    · rw [List.mem_singleton.mp q] at hu'
      exact .inr (List.mem_append.mpr (.inr ((hn u).mpr hu')))
  · rcases h.root with q | q
    · exact .inl (sub x q)
    · rcases List.mem_append.mp q with q | q
      · exact .inr (List.mem_append.mpr (.inl q))
      · rw [List.mem_singleton.mp q]; exact .inl me
  · have := h.len
    rw [List.length_append] at this ⊢
    rw [List.length_append]
    have e1 : [y].length = 1 := rfl
    omega
theorem Mark.fin {s : Keep.State} {x : Nat} {ks new : List Nat} (h : Mark s x ks [] new) : KM.Clo s (ks ++ new) ∧ x ∈ ks ++ new :=
  ⟨fun y hy z hz => (h.clo y hy z hz).elim id fun q => by simp at q, h.root.elim id fun q => by simp at q⟩
/-- what is still to do -/
def todo (D p : Addr) (H : Hp) : Nat := match H D, H p with
  | some (.lst xs), some (.dK kvs) => 17 * (256 - kvs.length) + xs.length
  | _, _ => 0
theorem todo_eq {D p : Addr} {H : Hp} {wl : List Nat} {mk : List (Nat × V)} (h1 : H D = some (.lst (vints wl))) (h2 : H p = some (.dK (mp mk))) : todo D p H = 17 * (256 - mk.length) + wl.length := by
  unfold todo
  rw [h1, h2]
  show 17 * (256 - (mp mk).length) + (vints wl).length = _
  rw [mp_len, vints_len]
def spMark (A : Adr) : Sp := fun vs H Q _ => ∃ L s m v, ∃ (x : Nat) (mk : List (Nat × V)), Rep A H L s ∧ KM.Wf s ∧ vs = [.ref (L.a .off), .int x, v, .ref m] ∧ s.here x = true ∧ H m = some (.dK (mp mk)) ∧ L.g m = .out ∧ (mk.map (·.1)).Nodup ∧ (∀ k ∈ mk.map (·.1), s.here k = true) ∧ KM.Clo s (mk.map (·.1)) ∧
  ∀ (H' : Hp) (new : List Nat), SameX m H H' → H' m = some (.dK (mp (mk ++ new.map fun n => (n, v)))) → (mk.map (·.1) ++ new).Nodup → (∀ n ∈ new, s.here n = true ∧ KM.Up s n x) → KM.Clo s (mk.map (·.1) ++ new) → x ∈ mk.map (·.1) ++ new → Q .non H'
theorem ok_mark_with_needs (T : Txt K mg A) (D : DefIn K mg "mark_with_needs" s_mark_with_needs ["office", "x", "mark", "marks"]) : Callee P w K mg base "mark_with_needs" 1 ["office", "x", "mark", "marks"] (spMark A) := by
  refine Callee.of D sc_mark_with_needs (fun vs H Q E h => ?_) (fun f cdv Ar outer sh H vs Q E hr h => ?_)
  · obtain ⟨_, _, _, _, _, _, _, _, rfl, _⟩ := h
    rfl
  · obtain ⟨L, s, m, v, x, mk, R, W, rfl, hx, hm, gm, nd, hk, clo, q⟩ := h
    refine ⟨_, (pss_cons (ps_set (i := 4) sc_mark_with_needs.nd rfl (by first | exact Or.inl rfl | exact Or.inr rfl) (pe_lst (pa_cons (pv 1) pa_nil)))
      (pss_one (ps_while PassesOwn.never (pt_cmpR op_gt (pe_callB call_len_seq rfl T.b_len bt_len (pa_cons (pv 4) pa_nil)) pe_int (nomark _)) (pss_cons (ps_set (i := 5) sc_mark_with_needs.nd rfl (by first | exact Or.inl rfl | exact Or.inr rfl) (pe_bm0 PySem.F.plainAttrs_list PySem.F.slot_list_pop PySem.F.type_list_pop mt_pop (pv 4)))
      (pss_one (ps_if (pt_cmp (pc_dnotin (hu_of hr) (pv 5) (pv 3))) (pss_cons (ps_dput (hu_of hr) (pv 3) (pv 5) (pv 2) rfl)
      (pss_one (ps_expr (pe_bm PySem.F.plainAttrs_list PySem.F.slot_list_extend PySem.F.type_list_extend mt_extend (pv 4) (pa_cons (pe_fld (pe_ix ix_list (pe_fld (pv 0) rfl) (pv 5) (fun _ _ => rfl)) rfl) pa_nil))))) pss_nil)))))), ?_⟩
    refine ⟨_, rfl, (by show 1 ≤ sizeLine; decide), fun D hD => ?_⟩
    have nDm : D ≠ m := (ne_of_none hm hD).symm
    refine while_by (fun σ H' => ∃ (u : Option V) (wl new : List Nat), σ = [some (.ref (L.a .off)), some (.int x), some v, some (.ref m), some (.ref D), u] ∧ SameX m H H' ∧ H' D = some (.lst (vints wl)) ∧ H' m = some (.dK (mp (mk ++ new.map fun n => (n, v)))) ∧ Mark s x (mk.map (·.1)) wl new) (fun _ H' => todo D m H')
      ⟨none, [x], [], rfl, (SameX.refl m H).new hD, upd_same, by rw [upd_ne nDm.symm, List.map_nil, List.append_nil]; exact hm, Mark.start nd clo hx⟩ ?_ ?_
    · rintro σ H3 ⟨u, wl, new, rfl, S3, h4, h5, Z⟩
      refine ⟨_, rfl, D, _, rfl, .inl (SqL.of h4), _, _, rfl, rfl, _, rfl, ?_⟩
      rw [vints_len]
      have kl : (mk.map (·.1) ++ new).length ≤ 256 := Nat.le_trans (KM.nodup_le _ _ Z.nd fun y hy => KM.here_lt ((List.mem_append.mp hy).elim (hk y) fun z => (Z.new y z).1)) W.nth
      have ek : (mk ++ new.map fun n => (n, v)).map (·.1) = mk.map (·.1) ++ new := by rw [List.map_append, keys_map]
      have el : (mk ++ new.map fun n => (n, v)).length = (mk.map (·.1) ++ new).length := by rw [← ek, List.length_map]
      refine ite2 (fun c => ?_) (fun c => ?_)
      · have c' : 0 < wl.length := by have := of_decide_eq_true c; omega
        obtain ⟨wl', y, rfl⟩ : ∃ wl' x, wl = wl' ++ [x] := ⟨wl.dropLast, wl.getLast (fun z => by rw [z] at c'; exact absurd c' (Nat.lt_irrefl _)), (List.dropLast_concat_getLast _).symm⟩
        obtain ⟨hyh, _⟩ := Z.wl y (List.mem_append.mpr (.inr (List.mem_singleton.mpr rfl)))
        obtain ⟨t, e, g⟩ := KM.here_iff.mp hyh
        have hy : y < s.things.length := KM.here_lt hyh
        have mu : todo D m H3 = 17 * (256 - (mk.map (·.1) ++ new).length) + (wl'.length + 1) := by rw [todo_eq h4 h5, el, List.length_append (as := wl')]; rfl
        -- y = waiting.pop()
        refine ⟨_, rfl, .inl ⟨rfl, _, SqL.of h4⟩, D, _, V.int y, rfl, rfl, h4, ?_, ?_⟩
        · rw [← vints_snoc, List.length_append]
          show (vints wl' ++ [V.int y])[(vints wl').length + 1 - 1]? = _
          rw [Nat.add_sub_cancel, List.getElem?_append_right (Nat.le_refl _), Nat.sub_self]
          rfl
        have ed : (vints (wl' ++ [y])).dropLast = vints wl' := by rw [← vints_snoc, List.dropLast_concat]
        rw [ed]
        have S4 : SameX m H (upd H3 D (.lst (vints wl'))) := S3.new hD
        have R4 := R.sameX gm S4
        have h5' : upd H3 D (.lst (vints wl')) m = some (.dK (mp (mk ++ new.map fun n => (n, v)))) := by rw [upd_ne nDm.symm]; exact h5
        -- if y not in marks
        refine ⟨_, rfl, _, rfl, m, _, rfl, DGet.k (k := Sum.inl y) h5', _, rfl, ?_⟩
        rw [mp_val, lookup_some, ek]
        cases c2 : (mk.map (·.1) ++ new).contains y with
        | true =>
          refine iteF ⟨⟨_, wl', new, rfl, S4, upd_same, h5', Z.skip (List.contains_iff_mem.mp c2)⟩, ?_⟩
          show todo D m _ < todo D m H3
          rw [mu, todo_eq upd_same h5', el]
          omega
        | false =>
          have hnk : y ∉ mk.map (·.1) ++ new := fun z => by rw [List.contains_iff_mem.mpr z] at c2; cases c2
          obtain ⟨ns, pn, hns⟩ := R.n e
          have need : KM.needsOf s y = t.needs := by unfold KM.needsOf Keep.State.thing; rw [e]; rfl
          have Z6 : Mark s x (mk.map (·.1)) (wl' ++ ns) (new ++ [y]) := Z.take W hnk (fun z => by rw [need]; exact pn.mem_iff) (by rw [pn.length_eq]; exact (W.th y t e).few)
          have kl6 : (mk.map (·.1) ++ (new ++ [y])).length ≤ 256 := Nat.le_trans (KM.nodup_le _ _ Z6.nd fun y hy => KM.here_lt ((List.mem_append.mp hy).elim (hk y) fun z => (Z6.new y z).1)) W.nth
          -- marks[y] = mark
          refine iteT ⟨_, rfl, _, rfl, _, rfl, m, _, rfl, DPut.k (k := Sum.inl y) h5' (by rw [mp_len, el]; exact size256 kl), ?_⟩
          rw [mp_put (by rw [ek]; exact hnk)]
          have em : mk ++ (new.map fun n => (n, v)) ++ [(y, v)] = mk ++ (new ++ [y]).map fun n => (n, v) := by rw [List.map_append, List.append_assoc]; rfl
          rw [em]
          have S6 : SameX m H (upd (upd H3 D (.lst (vints wl'))) m (.dK (mp (mk ++ (new ++ [y]).map fun n => (n, v))))) := S4.put
          have R6 := R.sameX gm S6
          obtain ⟨dx, ho⟩ := R6.off
          obtain ⟨dt, ht⟩ := R6.t e
          have lD : upd (upd H3 D (.lst (vints wl'))) m (.dK (mp (mk ++ (new ++ [y]).map fun n => (n, v)))) D = some (.lst (vints wl')) := by rw [upd_ne nDm, upd_same]
          have hns6 := S6 _ _ (R.apart (g := .n y) hy gm) hns
          have l6 := Z6.len
          have k6 : new.length ≤ 256 := by rw [List.length_append] at kl; omega
          -- waiting.extend(office.things[y].needs)
          refine ⟨_, rfl, .inl ⟨rfl, _, SqL.of lD⟩, _, rfl, _, _, dx, _, _, rfl, ho, T.cl_Office, T.n_Office_things, rfl, _, rfl, _, _, _, _, rfl, rfl, SqL.of R6.th, atI_nat (refs_get hy), _, _, dt, _, _, rfl, ht, T.cl_Thing, T.n_Thing_needs, rfl, ?_⟩
          refine ⟨D, L.a (.n y), _, _, rfl, rfl, lD, hns6, ?_, ?_⟩
          · rw [vints_len, vints_len]
            rw [List.length_append, List.length_append] at l6
            have e1 : [y].length = 1 := rfl
            exact Nat.le_of_lt (Nat.lt_of_le_of_lt (show wl'.length + ns.length ≤ 5000 by omega) (by decide))
          · have ev : vints wl' ++ vints ns = vints (wl' ++ ns) := by unfold vints; rw [List.map_append]
            rw [ev]
            refine ⟨⟨_, wl' ++ ns, new ++ [y], rfl, S6.new hD, upd_same, by rw [upd_ne nDm.symm, upd_same], Z6⟩, ?_⟩
            show todo D m _ < todo D m H3
            rw [mu, todo_eq (wl := wl' ++ ns) (mk := mk ++ (new ++ [y]).map fun n => (n, v)) upd_same (by rw [upd_ne nDm.symm, upd_same])]
            have e2 : (mk ++ (new ++ [y]).map fun n => (n, v)).length = (mk.map (·.1) ++ (new ++ [y])).length := by simp
            have hl := (W.th y t e).few
            rw [← pn.length_eq] at hl
            rw [e2]
            rw [List.length_append] at kl kl6 ⊢
            rw [List.length_append] at kl6 ⊢
            have e1 : [y].length = 1 := rfl
            rw [List.length_append]
            rw [List.length_append]
            omega
      · have c' : wl = [] := by
          cases wl with
          | nil => rfl
          | cons a r => exact absurd (decide_eq_true (by simp only [List.length_cons]; omega)) c
        subst c'
        obtain ⟨f1, f2⟩ := Z.fin
        exact q H3 new S3 h5 Z.nd Z.new f1 f2
    · rintro σ H Q Q' m ⟨v, hv, p, ys, hp, hsq, i, j, hi, hj, k, hk, hq⟩
      exact ⟨v, hv, p, ys, hp, hsq, i, j, hi, hj, k, hk, m _ _ hq⟩
/-! ### kept_things -/
def spKept (A : Adr) : Sp := fun vs H Q _ => ∃ L s, Rep A H L s ∧ KM.Wf s ∧ vs = [.ref (L.a .off)] ∧
  ∀ (H' : Hp) (p : Addr) (l : List Nat), Same H H' → H p = none → H' p = some (.dK (dset l)) → (∀ x, x ∈ l ↔ KM.Kept s s.now x) → Q (.ref p) H'
theorem ok_kept_things (T : Txt K mg A) (D : DefIn K mg "kept_things" s_kept_things ["office"]) (c_kept_by_itself : Callee P w K mg base "kept_by_itself" 2 ["office", "x"] (spOwn A)) (c_things_here : Callee P w K mg base "things_here" 1 ["office"] (spThingsHere A))
    (c_mark_with_needs : Callee P w K mg base "mark_with_needs" 1 ["office", "x", "mark", "marks"] (spMark A)) : Callee P w K mg base "kept_things" 3 ["office"] (spKept A) := by
  refine Callee.of D sc_kept_things (fun vs H Q E h => ?_) (fun f cdv Ar outer sh H vs Q E hr h => ?_)
  · obtain ⟨_, _, _, _, rfl, _⟩ := h
    rfl
  · obtain ⟨L, s, R, W, rfl, q⟩ := h
    refine ⟨_, (pss_cons (ps_set (i := 1) sc_kept_things.nd rfl (by first | exact Or.inl rfl | exact Or.inr rfl) pe_dnewK)
      (pss_cons (ps_for PassesOwn.never rfl (pi_list (pe_callC c_things_here (hr.mono (by decide)) rfl (pa_cons (pv 0) pa_nil))) (pg_name (i := 2) sc_kept_things.nd rfl (by first | exact Or.inl rfl | exact Or.inr rfl)) (pss_one (ps_if (pt_val (pe_callC c_kept_by_itself (hr.mono (by decide)) rfl (pa_cons (pv 0) (pa_cons (pv 2) pa_nil)))) (pss_one (ps_expr (pe_callC c_mark_with_needs (hr.mono (by decide)) rfl (pa_cons (pv 0) (pa_cons (pv 2) (pa_cons pe_bl (pa_cons (pv 1) pa_nil))))))) pss_nil)))
      (pss_one (ps_ret (pv 1))))), ?_⟩
    intro p hp
    have S0 : Same H (upd H p (.dK [])) := sameNew (Same.refl H) hp
    have R0 := R.same S0
    have gp : L.g p = .out := R.own p hp
    refine ⟨_, rfl, L, s, R0, W, rfl, fun H1 D S1 hD hl => ?_⟩
    have hDp : D ≠ p := fun z => by rw [z, upd_same] at hD; cases hD
    have hD0 : H D = none := by rw [upd_ne hDp] at hD; exact hD
    have S2 := S0.trans S1
    refine ⟨_, rfl, ⟨_, SqL.of hl⟩, for_list (K := K) (a := D) (xs := vints (hereL s s.things.length))
      (fun i σ H' => ∃ (v : Option V) (l : List Nat), σ = [some (.ref (L.a .off)), some (.ref p), v] ∧ Same H H' ∧ H' D = some (.lst (vints (hereL s s.things.length))) ∧ H' p = some (.dK (dset l)) ∧ l.Nodup ∧ (∀ n ∈ l, KM.Kept s s.now n) ∧ KM.Clo s l ∧ ∀ y ∈ (hereL s s.things.length).take i, s.own s.now y = true → y ∈ l)
      ⟨none, [], rfl, S2, hl, S1 _ _ upd_same, by simp, fun n hn => by simp at hn, fun n hn => by simp at hn, fun y hy => by simp at hy⟩ (fun i σ H' _ ⟨_, _, _, _, h3, _⟩ => SqL.of h3) ?_ ?_⟩
    · rintro i y σ H' hi ⟨v, l, rfl, S3, h3, h4, nd, kp, clo, root⟩
      obtain ⟨x, hx, rfl⟩ := vints_get hi
      have hh : s.here x = true := mem_hereL.mp (List.mem_of_getElem? hx)
      have R3 := R.same S3
      refine ⟨_, rfl, _, rfl, L, s, x, R3, rfl, hh, _, rfl, ?_⟩
      cases c : s.own s.now x with
      | false =>
        refine iteF ⟨_, l, rfl, S3, h3, h4, nd, kp, clo, fun z hz ho => ?_⟩
        rw [take_succ hx] at hz
        rcases List.mem_append.mp hz with z1 | z1
        · exact root z z1 ho
        · rw [List.mem_singleton.mp z1, c] at ho; cases ho
      | true =>
        rw [dset_mp] at h4
        refine iteT ⟨_, rfl, _, rfl, _, rfl, L, s, p, _, x, l.map fun n => (n, V.bl true), R3, W, rfl, hh, h4, gp, by rw [keys_map]; exact nd, by rw [keys_map]; exact fun k hk => (kp k hk).here, by rw [keys_map]; exact clo, ?_⟩
        rw [keys_map]
        intro H4 new S4 h5 nd5 nw clo5 hx5
        refine ⟨_, l ++ new, rfl, S4.same S3 hp, S4 _ _ hDp h3, ?_, nd5, fun n hn => ?_, clo5, fun z hz ho => ?_⟩
        · rw [h5, dset_mp, List.map_append]
        · rcases List.mem_append.mp hn with z | z
          · exact kp n z
          · exact KM.up_kept (nw n z).2 (nw n z).1 c
        · rw [take_succ hx] at hz
          rcases List.mem_append.mp hz with z1 | z1
          · exact List.mem_append.mpr (.inl (root z z1 ho))
          · rw [List.mem_singleton.mp z1]; exact hx5
    · rintro σ H3 ⟨v, l, rfl, S3, h3, h4, nd, kp, clo, root⟩
      rw [vints_len, List.take_length] at root
      exact ⟨_, rfl, q H3 p l S3 hp h4 fun x => ⟨kp x, fun k => KM.kept_clo clo (fun y hy => root y (mem_hereL.mpr (KM.own_here hy)) hy) k⟩⟩
end
end KB

set_option Elab.async false
set_option linter.all false
set_option autoImplicit false
set_option maxRecDepth 100000
set_option maxHeartbeats 2000000
namespace KB
open PySem PySem.Spec PyProof.Rows L2
theorem frSame {H H' : Hp} {L : Lo} (S : Same H H') : Fr H L H' L := fun b o e g => ⟨S b o e, g⟩
/-- let go of some of those that go -/
def goneOf (s : Keep.State) (l : List Nat) : List Keep.Thing := s.things.zipIdx.map fun (q : Keep.Thing × Nat) => if l.contains q.2 = true then { q.1 with gone := some s.now } else q.1
theorem goneOf_get (s : Keep.State) (l : List Nat) (x : Nat) : (goneOf s l)[x]? = (s.things[x]?).map fun t => if l.contains x = true then { t with gone := some s.now } else t := by
  unfold goneOf
  rw [List.getElem?_map, List.getElem?_zipIdx]
  cases s.things[x]? with
  | none => rfl
  | some t => simp
theorem goneOf_nil (s : Keep.State) : goneOf s [] = s.things := by
  apply List.ext_getElem?
  intro x
  rw [goneOf_get]
  cases s.things[x]? <;> rfl
theorem goneOf_len (s : Keep.State) (l : List Nat) : (goneOf s l).length = s.things.length := by unfold goneOf; simp
theorem goneOf_snoc {s : Keep.State} {l : List Nat} {x : Nat} {t : Keep.Thing} (e : s.things[x]? = some t) : goneOf s (l ++ [x]) = (goneOf s l).set x { t with gone := some s.now } := by
  apply List.ext_getElem?
  intro y
  have hx := (List.getElem?_eq_some_iff.mp e).1
  rw [List.getElem?_set, goneOf_get, goneOf_get, goneOf_len]
  by_cases c : x = y
  · subst c
    rw [if_pos rfl, if_pos hx, e]
    have : (l ++ [x]).contains x = true := List.contains_iff_mem.mpr (List.mem_append.mpr (.inr (List.mem_singleton.mpr rfl)))
    rw [Option.map_some, if_pos this]
  · rw [if_neg c]
    have : (l ++ [x]).contains y = l.contains y := by
      cases h : l.contains y with
      | true => exact List.contains_iff_mem.mpr (List.mem_append.mpr (.inl (List.contains_iff_mem.mp h)))
      | false =>
        cases h2 : (l ++ [x]).contains y with
        | false => rfl
        | true =>
          rcases List.mem_append.mp (List.contains_iff_mem.mp h2) with z | z
          · rw [List.contains_iff_mem.mpr z] at h; cases h
          · exact absurd (List.mem_singleton.mp z).symm c
    rw [this]
theorem goes_nodup (s : Keep.State) (m : Nat) : (KM.goes s m).Nodup := List.Nodup.sublist List.filter_sublist List.nodup_range
theorem goes_len (s : Keep.State) (m : Nat) : (KM.goes s m).length ≤ s.things.length := by
  have := List.length_filter_le (fun (x : Nat) => s.here x && !(s.keptNow m).contains x) (List.range s.things.length)
  rw [List.length_range] at this
  exact this
theorem filter_hereL {s : Keep.State} {l : List Nat} (h : ∀ x, x ∈ l ↔ KM.Kept s s.now x) : (hereL s s.things.length).filter (fun x => !l.contains x) = KM.goes s s.now := by
  unfold hereL KM.goes
  rw [List.filter_filter]
  apply List.filter_congr
  intro x _
  have e : l.contains x = (s.keptNow s.now).contains x := by
    cases q : (s.keptNow s.now).contains x with
    | true => exact List.contains_iff_mem.mpr ((h x).mpr (KM.mem_keptNow.mp (List.contains_iff_mem.mp q)))
    | false =>
      cases q2 : l.contains x with
      | false => rfl
      | true => rw [List.contains_iff_mem.mpr (KM.mem_keptNow.mpr ((h x).mp (List.contains_iff_mem.mp q2)))] at q; cases q
  rw [e, Bool.and_comm]
section
variable {P : Program} {w : World} {K : PySem.W.Frag} {mg : Str → Option Value} {base : Heap} {A : Adr}
def spLetGo (A : Adr) : Sp := fun vs H Q _ => ∃ L s, Rep A H L s ∧ KM.Wf s ∧ vs = [.ref (L.a .off)] ∧ ∀ (H' : Hp) (p : Addr), Rep A H' L (s.letGo s.now) → Fr H L H' L → H' p = some (.lst (vints (KM.goes s s.now))) → L.g p = .out → H p = none → Q (.ref p) H'
theorem ok_let_go (T : Txt K mg A) (D : DefIn K mg "let_go" s_let_go ["office"]) (c_kept_things : Callee P w K mg base "kept_things" 3 ["office"] (spKept A)) (c_things_here : Callee P w K mg base "things_here" 1 ["office"] (spThingsHere A)) : Callee P w K mg base "let_go" 4 ["office"] (spLetGo A) := by
  refine Callee.of D sc_let_go (fun vs H Q E h => ?_) (fun f cdv Ar outer sh H vs Q E hr h => ?_)
  · obtain ⟨_, _, _, _, rfl, _⟩ := h
    rfl
  · obtain ⟨L, s, R, W, rfl, q⟩ := h
    refine ⟨_, (pss_cons (ps_set (i := 1) sc_let_go.nd rfl (by first | exact Or.inl rfl | exact Or.inr rfl) (pe_callC c_kept_things (hr.mono (by decide)) rfl (pa_cons (pv 0) pa_nil)))
      (pss_cons (ps_setLc (i := 2) rfl sc_let_go.nd rfl rfl rfl (pi_list (pe_callC c_things_here (hr.mono (by decide)) rfl (pa_cons (pv 0) pa_nil))) (blkOk_by (own := [("x", 3)]) rfl) (fun _ _ _ _ _ => (pg_name (i := 3) sc_let_go.nd rfl (by first | exact Or.inl rfl | exact Or.inr rfl))) (fun _ _ _ _ _ => (pts_one (pt_cmp (pc_dnotin (hu_of hr) (pv 3) (pv 1))))) (fun _ _ _ _ _ => (pv 3)))
      (pss_cons (ps_for PassesOwn.never rfl (pi_list (pv 2)) (pg_name (i := 3) sc_let_go.nd rfl (by first | exact Or.inl rfl | exact Or.inr rfl)) (pss_cons (ps_set (i := 4) sc_let_go.nd rfl (by first | exact Or.inl rfl | exact Or.inr rfl) (pe_ix ix_list (pe_fld (pv 0) rfl) (pv 3) (fun _ _ => rfl)))
      (pss_cons (ps_fld (pv 4) pe_bl rfl)
      (pss_one (ps_fld (pv 4) (pe_fld (pv 0) rfl) rfl)))))
      (pss_cons (ps_expr (pe_bm PySem.F.plainAttrs_list PySem.F.slot_list_extend PySem.F.type_list_extend mt_extend (pe_fld (pv 0) rfl) (pa_cons (pv 2) pa_nil)))
      (pss_one (ps_ret (pv 2))))))), ?_⟩
    refine ⟨_, rfl, L, s, R, W, rfl, fun H1 p l S1 hp hl hk => ?_⟩
    have R1 := R.same S1
    have gp : L.g p = .out := R.own p hp
    -- went = [x for x in things_here(office) if x not in kept]
    refine ⟨_, rfl, L, s, R1, W, rfl, fun H2 d S2 hd hl2 => ?_⟩
    refine ⟨d, rfl, ⟨_, SqL.of hl2⟩, fun g hg => ?_⟩
    have S02 := S1.trans S2
    have hg0 : H g = none := S02.free hg
    have hl' := S2 _ _ hl
    have gp2 : g ≠ p := (ne_of_none hl' hg).symm
    have gd2 : g ≠ d := (ne_of_none hl2 hg).symm
    have gg : L.g g = .out := R.own g hg0
    refine lc_list (K := K) (a := d) (xs := vints (hereL s s.things.length)) (fun i H' => Same H2 H' ∧ H' g = some (.lst (vints (((hereL s s.things.length).take i).filter fun x => !l.contains x)))) ⟨sameNew (Same.refl H2) hg, upd_same⟩ (fun i H' _ ⟨S, _⟩ => SqL.of (S _ _ hl2)) (fun i y H' hi ⟨S, hgl⟩ => ?_) (fun H3 ⟨S3, hl3⟩ => ?_)
    · obtain ⟨x, hx, rfl⟩ := vints_get hi
      refine ⟨rfl, _, rfl, _, rfl, p, _, rfl, DGet.k (k := Sum.inl x) (S _ _ hl'), _, rfl, ?_⟩
      rw [dset_has (List.Perm.refl _), take_succ hx, List.filter_append]
      cases c : l.contains x with
      | true =>
        refine iteF ⟨S, ?_⟩
        rw [List.filter_cons, c]
        rw [if_neg (by simp), List.filter_nil, List.append_nil]
        exact hgl
      | false =>
        refine iteT ⟨_, rfl, _, hgl, ?_, sameNew S hg, ?_⟩
        · rw [vints_len]
          refine size256 (Nat.le_trans (List.length_filter_le _ _) (Nat.le_trans (List.length_take_le' _ _) (Nat.le_trans (hereL_len _ _) W.nth)))
        · rw [upd_same, vints_snoc]
          rw [List.filter_cons, c]
          rw [if_pos (by simp), List.filter_nil]
    · rw [vints_len, List.take_length, filter_hereL hk] at hl3
      have S03 := S02.trans S3
      have R3 := R.same S03
      -- for x in went
      refine ⟨_, rfl, g, rfl, ⟨_, SqL.of hl3⟩, for_list (K := K) (a := g) (xs := vints (KM.goes s s.now))
        (fun i σ H' => ∃ v u : Option V, σ = [some (.ref (L.a .off)), some (.ref p), some (.ref g), v, u] ∧ Rep A H' L { s with things := goneOf s ((KM.goes s s.now).take i) } ∧ Fr H3 L H' L ∧ H' g = some (.lst (vints (KM.goes s s.now))))
        ⟨none, none, rfl, by rw [List.take_zero, goneOf_nil]; exact R3, Fr.refl H3 L, hl3⟩ (fun i σ H' _ ⟨_, _, _, _, _, h⟩ => SqL.of h) ?_ ?_⟩
      · rintro i y σ H' hi ⟨v, u, rfl, R4, F4, h4⟩
        obtain ⟨x, hx, rfl⟩ := vints_get hi
        have hxg : x ∈ KM.goes s s.now := List.mem_of_getElem? hx
        obtain ⟨t, e, gt⟩ := KM.here_iff.mp (KM.mem_goes.mp hxg).1
        have xlt := (List.getElem?_eq_some_iff.mp e).1
        have nx : x ∉ (KM.goes s s.now).take i := fun z => by
          have := goes_nodup s s.now
          rw [← List.take_append_drop i (KM.goes s s.now)] at this
          exact (List.nodup_append.mp this).2.2 x z x (by
            have := List.getElem?_drop (xs := KM.goes s s.now) (i := i) (j := 0)
            rw [Nat.add_zero, hx] at this
            exact List.mem_of_getElem? this) rfl
        have e' : (goneOf s ((KM.goes s s.now).take i))[x]? = some t := by
          rw [goneOf_get, e, Option.map_some, if_neg (fun z => nx (List.contains_iff_mem.mp z))]
        have ln : x < (goneOf s ((KM.goes s s.now).take i)).length := by rw [goneOf_len]; exact xlt
        obtain ⟨dx, ho⟩ := R4.off
        obtain ⟨dt, ht⟩ := R4.t e'
        have gt' : g ≠ L.a (.t x) := fun z => by
          have := R4.tag (.t x) ln
          rw [← z, gg] at this; cases this
        have no : L.a .off ≠ L.a (.t x) := R4.ne (g := .off) (g' := .t x) trivial ln (by intro z; cases z)
        refine ⟨_, rfl, _, _, dx, _, _, rfl, ho, T.cl_Office, T.n_Office_things, rfl, _, rfl, _, _, _, _, rfl, rfl, SqL.of R4.th, atI_nat (refs_get ln), ?_⟩
        -- thing.here = False; thing.gone_at = office.moment
        refine ⟨_, rfl, _, _, dt, _, rfl, ht, T.cl_Thing, T.n_Thing_here, (by show 6 < 1000; decide), ?_⟩
        refine ⟨_, rfl, _, _, dx, _, _, rfl, (by rw [upd_ne no]; exact ho), T.cl_Office, T.n_Office_moment, rfl, _, rfl, _, _, dt, _, rfl, upd_same, T.cl_Thing, T.n_Thing_gone_at, (by show 6 < 1000; decide), ?_⟩
        rw [upd_upd]
        refine ⟨_, _, rfl, ?_, F4.trans (R4.frAt (g := .t x) ln), by rw [upd_ne gt']; exact h4⟩
        rw [take_succ hx, goneOf_snoc e]
        exact R4.setThing (u := { t with gone := some s.now }) e' rfl
      · rintro σ H4 ⟨v, u, rfl, R4, F4, h4⟩
        rw [vints_len, List.take_length] at R4
        obtain ⟨dx, ho⟩ := R4.off
        have wl : (s.went.map (·.1)).length + (KM.goes s s.now).length ≤ 1000 := by
          have h1 : (s.went.map (·.1)).length ≤ 256 := Nat.le_trans (KM.nodup_le _ _ W.wn fun x hx => by
            obtain ⟨q0, hq, rfl⟩ := List.mem_map.mp hx
            obtain ⟨t, e, _⟩ := W.wl q0 hq
            exact (List.getElem?_eq_some_iff.mp e).1) W.nth
          have h2 := goes_len s s.now
          have := W.nth
          omega
        -- office.gone.extend(went)
        refine ⟨_, rfl, _, _, dx, _, _, rfl, ho, T.cl_Office, T.n_Office_gone, rfl, .inl ⟨rfl, _, SqL.of R4.go⟩, _, rfl, ?_⟩
        refine ⟨_, g, _, _, rfl, rfl, R4.go, h4, (by rw [vints_len, vints_len]; exact Nat.le_of_lt (Nat.lt_of_le_of_lt wl (by decide))), ?_⟩
        have ev : vints (s.went.map (·.1)) ++ vints (KM.goes s s.now) = vints (s.went.map (·.1) ++ KM.goes s s.now) := by unfold vints; rw [List.map_append (l₁ := s.went.map (·.1))]
        have gog : g ≠ L.a .go := fun z => by
          have := R4.tag .go trivial
          rw [← z, gg] at this; cases this
        refine ⟨_, rfl, q _ g ?_ ((frSame S03).trans (F4.trans (R4.frAt (g := .go) trivial))) (by rw [upd_ne gog]; exact h4) gg hg0⟩
        rw [KM.letGo_eq]
        show Rep A (upd H4 (L.a .go) (.lst (vints (s.went.map (·.1)) ++ vints (KM.goes s s.now)))) L _
        rw [ev]
        exact R4.setGone (l := s.went ++ (KM.goes s s.now).map fun x => (x, s.now)) (by rw [List.map_append, List.map_map]; congr 1; exact List.map_id' _)
end
end KB

set_option Elab.async false
set_option linter.all false
set_option autoImplicit false
set_option maxRecDepth 100000
set_option maxHeartbeats 2000000
namespace KB
open PySem PySem.Spec PyProof.Rows L2
theorem vints_at {l : List Nat} {i n : Nat} (h : l[i]? = some n) : (vints l)[i]? = some (V.int n) := by
  unfold vints
  rw [List.getElem?_map, h]
  rfl
theorem rising_get : ∀ {l : List Nat}, Keep.rising l = true ↔ ∀ j a b, l[j]? = some a → l[j + 1]? = some b → a < b
  | [] => by simp [Keep.rising]
  | [a] => by simp [Keep.rising]
  | a :: b :: r => by
    have ih := rising_get (l := b :: r)
    show (decide (a < b) && Keep.rising (b :: r)) = true ↔ _
    rw [Bool.and_eq_true, ih, decide_eq_true_iff]
    constructor
    · rintro ⟨h1, h2⟩ j x y hx hy
      cases j with
      | zero =>
        have e1 : a = x := Option.some.inj hx
        have e2 : b = y := Option.some.inj hy
        omega
      | succ j => exact h2 j x y hx hy
    · intro h
      exact ⟨h 0 a b rfl rfl, fun j x y hx hy => h (j + 1) x y hx hy⟩
theorem all_take {α : Type} {l : List α} {i : Nat} {x : α} {p : α → Bool} (h : l[i]? = some x) (a : (l.take i).all p = true) (b : p x = true) : (l.take (i + 1)).all p = true := by
  rw [take_succ h, List.all_append, a, List.all_cons, b]
  rfl
theorem all_not {α : Type} {l : List α} {i : Nat} {x : α} {p : α → Bool} (h : l[i]? = some x) (b : p x = false) : l.all p = false := by
  cases c : l.all p with
  | false => rfl
  | true =>
    rw [List.all_eq_true.mp c x (List.mem_of_getElem? h)] at b
    cases b
section
variable {P : Program} {w : World} {K : PySem.W.Frag} {mg : Str → Option Value} {base : Heap} {A : Adr}
/-! ### is_rising -/
def spRising (K : PySem.W.Frag) : Sp := fun vs H Q _ => ∃ a l, vs = [.ref a] ∧ SqL K H a (vints l) ∧ l.length ≤ 300 ∧ Q (.bl (Keep.rising l)) H
theorem ok_is_rising (T : Txt K mg A) (D : DefIn K mg "is_rising" s_is_rising ["numbers"]) : Callee P w K mg base "is_rising" 1 ["numbers"] (spRising K) := by
  refine Callee.of D sc_is_rising (fun vs H Q E h => ?_) (fun f cdv Ar outer sh H vs Q E hr h => ?_)
  · obtain ⟨_, _, rfl, _⟩ := h
    rfl
  · obtain ⟨a, l, rfl, hS, hl, q⟩ := h
    refine ⟨_, (pss_cons (ps_for PassesOwn.never rfl (pi_range2 rfl T.b_range (pa_cons pe_int (pa_cons (pe_callB call_len_seq rfl T.b_len bt_len (pa_cons (pv 0) pa_nil)) pa_nil))) (pg_name (i := 1) sc_is_rising.nd rfl (by first | exact Or.inl rfl | exact Or.inr rfl)) (pss_one (ps_if (pt_cmpR op_le (pe_ix ix_list (pv 0) (pv 1) (fun _ _ => rfl)) (pe_ix ix_list (pv 0) (pe_op op_sub (pv 1) pe_int) (fun _ _ => rfl)) (nomark _)) (pss_one (ps_ret pe_bl)) pss_nil)))
      (pss_one (ps_ret pe_bl))), ?_⟩
    refine ⟨_, rfl, a, _, rfl, .inl hS, _, _, rfl, (by rw [vints_len]; omega), ?_⟩
    rw [vints_len]
    refine for_range (lo := 1) (n := ((l.length : Int) - 1).toNat) (fun i σ H' => ∃ v : Option V, H' = H ∧ σ = [some (.ref a), v] ∧ ∀ j x y, j < i → l[j]? = some x → l[j + 1]? = some y → x < y) ⟨none, rfl, rfl, fun j x y h => absurd h (Nat.not_lt_zero _)⟩ (fun i σ H' hi ⟨v, e1, e2, hj⟩ => ?_) (fun σ H' ⟨v, e1, e2, hj⟩ => ?_)
    · subst e1 e2
      have hi' : i + 1 < l.length := by omega
      obtain ⟨x, hx⟩ := get_some (show i < l.length by omega)
      obtain ⟨y, hy⟩ := get_some hi'
      refine ⟨_, rfl, _, rfl, _, _, _, _, rfl, rfl, hS, at_of (j := i + 1) (by omega) (vints_at hy), _, rfl, _, rfl, _, _, rfl, rfl, _, _, _, _, rfl, rfl, hS, at_of (j := i) (by omega) (vints_at hx), _, _, rfl, rfl, _, rfl, ?_⟩
      refine ite2 (fun c => ?_) (fun c => ?_)
      · have c' : y ≤ x := by have := of_decide_eq_true c; omega
        have : Keep.rising l = false := by
          cases z : Keep.rising l with
          | false => rfl
          | true => have := rising_get.mp z i x y hx hy; omega
        rw [this] at q
        exact q
      · refine ⟨_, rfl, rfl, fun j x' y' h1 h2 h3 => ?_⟩
        rcases Nat.lt_or_ge j i with d | d
        · exact hj j x' y' d h2 h3
        · have e : j = i := by omega
          subst e
          rw [hx] at h2
          rw [hy] at h3
          cases h2
          cases h3
          have : ¬ (y : Int) ≤ x := fun z => c (decide_eq_true z)
          omega
    · subst e1 e2
      have : Keep.rising l = true := rising_get.mpr fun j x y hx hy => hj j x y (by have := (List.getElem?_eq_some_iff.mp hy).1; omega) hx hy
      rw [this] at q
      exact q
/-! ### all_here, all_classes -/
def spAllHere (A : Adr) (K : PySem.W.Frag) : Sp := fun vs H Q _ => ∃ L s a l, Rep A H L s ∧ vs = [.ref (L.a .off), .ref a] ∧ SqL K H a (vints l) ∧ Q (.bl (l.all s.here)) H
theorem ok_all_here (T : Txt K mg A) (D : DefIn K mg "all_here" s_all_here ["office", "numbers"]) (c_is_here : Callee P w K mg base "is_here" 1 ["office", "x"] (spIsHere A)) : Callee P w K mg base "all_here" 2 ["office", "numbers"] (spAllHere A K) := by
  refine Callee.of D sc_all_here (fun vs H Q E h => ?_) (fun f cdv Ar outer sh H vs Q E hr h => ?_)
  · obtain ⟨_, _, _, _, _, rfl, _⟩ := h
    rfl
  · obtain ⟨L, s, a, l, R, rfl, hS, q⟩ := h
    refine ⟨_, (pss_cons (ps_for PassesOwn.never rfl (pi_list (pv 1)) (pg_name (i := 2) sc_all_here.nd rfl (by first | exact Or.inl rfl | exact Or.inr rfl)) (pss_one (ps_if (pt_not (pt_val (pe_callC c_is_here (hr.mono (by decide)) rfl (pa_cons (pv 0) (pa_cons (pv 2) pa_nil))))) (pss_one (ps_ret pe_bl)) pss_nil)))
      (pss_one (ps_ret pe_bl))), ?_⟩
    refine ⟨_, rfl, a, rfl, ⟨_, hS⟩, for_list (K := K) (a := a) (xs := vints l) (fun i σ H' => ∃ v : Option V, H' = H ∧ σ = [some (.ref (L.a .off)), some (.ref a), v] ∧ (l.take i).all s.here = true) ⟨none, rfl, rfl, rfl⟩ (fun i σ H' _ ⟨_, e1, _⟩ => by rw [e1]; exact hS) ?_ ?_⟩
    · rintro i y σ H' hi ⟨v, rfl, rfl, ha⟩
      obtain ⟨n, hn, rfl⟩ := vints_get hi
      refine ⟨_, rfl, _, rfl, L, s, n, R, rfl, _, rfl, ?_⟩
      cases c : s.here n with
      | true => exact iteF ⟨_, rfl, rfl, all_take hn ha c⟩
      | false =>
        rw [all_not hn c] at q
        exact iteT q
    · rintro σ H' ⟨v, rfl, rfl, ha⟩
      rw [vints_len, List.take_length] at ha
      rw [ha] at q
      exact q
def spAllClasses (A : Adr) (K : PySem.W.Frag) : Sp := fun vs H Q _ => ∃ L s a l, Rep A H L s ∧ vs = [.ref (L.a .off), .ref a] ∧ SqL K H a (vints l) ∧ Q (.bl (l.all fun (k : Nat) => decide (k < s.classes.length))) H
theorem ok_all_classes (T : Txt K mg A) (D : DefIn K mg "all_classes" s_all_classes ["office", "numbers"]) : Callee P w K mg base "all_classes" 1 ["office", "numbers"] (spAllClasses A K) := by
  refine Callee.of D sc_all_classes (fun vs H Q E h => ?_) (fun f cdv Ar outer sh H vs Q E hr h => ?_)
  · obtain ⟨_, _, _, _, _, rfl, _⟩ := h
    rfl
  · obtain ⟨L, s, a, l, R, rfl, hS, q⟩ := h
    obtain ⟨dx, ho⟩ := R.off
    refine ⟨_, (pss_cons (ps_for PassesOwn.never rfl (pi_list (pv 1)) (pg_name (i := 2) sc_all_classes.nd rfl (by first | exact Or.inl rfl | exact Or.inr rfl)) (pss_one (ps_if (pt_cmpR op_ge (pv 2) (pe_callB call_len_seq rfl T.b_len bt_len (pa_cons (pe_fld (pv 0) rfl) pa_nil)) (nomark _)) (pss_one (ps_ret pe_bl)) pss_nil)))
      (pss_one (ps_ret pe_bl))), ?_⟩
    refine ⟨_, rfl, a, rfl, ⟨_, hS⟩, for_list (K := K) (a := a) (xs := vints l) (fun i σ H' => ∃ v : Option V, H' = H ∧ σ = [some (.ref (L.a .off)), some (.ref a), v] ∧ (l.take i).all (fun (k : Nat) => decide (k < s.classes.length)) = true) ⟨none, rfl, rfl, rfl⟩ (fun i σ H' _ ⟨_, e1, _⟩ => by rw [e1]; exact hS) ?_ ?_⟩
    · rintro i y σ H' hi ⟨v, rfl, rfl, ha⟩
      obtain ⟨n, hn, rfl⟩ := vints_get hi
      refine ⟨_, rfl, _, rfl, _, _, dx, _, _, rfl, ho, T.cl_Office, T.n_Office_classes, rfl, _, _, rfl, .inl (SqL.of R.cl), _, _, rfl, rfl, _, rfl, ?_⟩
      rw [refs_len]
      refine ite2 (fun c => ?_) (fun c => ?_)
      · rw [all_not (p := fun (k : Nat) => decide (k < s.classes.length)) hn (decide_eq_false (by have := of_decide_eq_true c; omega))] at q
        exact q
      · refine ⟨_, rfl, rfl, all_take hn ha (decide_eq_true ?_)⟩
        rcases Nat.lt_or_ge n s.classes.length with z | z
        · exact z
        · exact absurd (decide_eq_true (by omega)) c
    · rintro σ H' ⟨v, rfl, rfl, ha⟩
      rw [vints_len, List.take_length] at ha
      rw [ha] at q
      exact q
/-! ### the classes' __init__ -/
structure InitIn (K : PySem.W.Frag) (mg : Str → Option Value) (C : Addr) (cn : Str) (qual : Str) (st : Stmt) (ps : List Str) : Prop where
  ex : ∃ f fd, Fun K "__init__" qual st f fd ∧ Mk K C f ∧ mg cn = some (.ref C) ∧ Binds K fd ps []
theorem Maker.of {cn qual : Str} {C : Addr} {st : Stmt} {N ps : List Str} {k : Nat} {sp : Sp} (D : InitIn K mg C cn qual st ps) (S : FnScope N ps (defScope st)) (len : ∀ vs H Q E, sp vs H Q E → vs.length = ps.length)
    (hbody : ∀ (f : Addr) (cdv : Value) (A : Around) (outer : List Env) (s : Shared) (H : Hp) (vs : List V) (Q : VK) (E : XK), Room k (A.deeper (envOfC qual (defScope st) s.heap.objs.size f cdv)) → sp vs H Q E →
      ∃ t, PSs (cxOf CX0 P w K mg base N qual (defScope st) f cdv A outer s H E).nox (defBody st) t ∧ t { nx := fun _ H' => Q .non H', rt := Q } (start N vs) H) : Maker P w K mg base cn C (k + 1) ps sp := by
  obtain ⟨f, fd, F, M, m, b⟩ := D.ex
  exact ⟨f, fd, M, F.ok S len fun cdv A outer s H vs Q E => hbody f cdv A outer s H vs Q E, m, b⟩
def spInitClass (A : Adr) : Sp := fun vs H Q _ => ∃ (p dx : Addr) (k e : V), vs = [.ref p, k, e] ∧ H p = some (.ins A.ThingClass dx []) ∧ Q .non (upd H p (.ins A.ThingClass dx [("keep", k), ("early", e)]))
theorem ok_ThingClass (T : Txt K mg A) (D : InitIn K mg A.ThingClass "ThingClass" "ThingClass.__init__" s_ThingClass___init__ ["self", "keep", "early"]) : Maker P w K mg base "ThingClass" A.ThingClass 1 ["self", "keep", "early"] (spInitClass A) := by
  refine Maker.of D sc_ThingClass___init__ (fun vs H Q E h => ?_) (fun f cdv Ar outer sh H vs Q E hr h => ?_)
  · obtain ⟨_, _, _, _, rfl, _⟩ := h
    rfl
  · obtain ⟨p, dx, k, e, rfl, hp, q⟩ := h
    refine ⟨_, (pss_cons (ps_fld (pv 0) (pv 1) rfl)
      (pss_one (ps_fld (pv 0) (pv 2) rfl))), ?_⟩
    refine ⟨_, rfl, _, rfl, p, _, dx, [], rfl, hp, T.cl_ThingClass, T.n_ThingClass_keep, (by show 0 < 1000; decide), ?_⟩
    refine ⟨_, rfl, _, rfl, p, _, dx, _, rfl, upd_same, T.cl_ThingClass, T.n_ThingClass_early, (by show 1 < 1000; decide), ?_⟩
    rw [upd_upd]
    exact q
def spInitThing (A : Adr) (K : PySem.W.Frag) : Sp := fun vs H Q _ => ∃ (p dx a : Addr) (x y z : V) (l : List V), vs = [.ref p, x, y, z, .ref a] ∧ H p = some (.ins A.Thing dx []) ∧ SqL K H a l ∧
  ∀ (H' : Hp) (q : Addr), H q = none → q ≠ p → H' q = some (.lst l) → H' p = some (.ins A.Thing dx [("which", x), ("filed", y), ("due", z), ("needs", .ref q), ("here", .bl true), ("gone_at", .int 0)]) → (∀ b o, H b = some o → b ≠ p → H' b = some o) → (∀ b, H' b = none → H b = none) → Q .non H'
theorem SqL.upd {K : PySem.W.Frag} {H : Hp} {a p : Addr} {l : List V} {o o' : HO} (h : SqL K H a l) (hp : H p = some o) (n1 : ∀ l, o ≠ .lst l) (n2 : ∀ u l, o ≠ .frz u l) : SqL K (L2.upd H p o') a l := by
  rcases h with (h | ⟨u, h⟩) | h
  · exact .inl (.inl (by rw [upd_ne (ne_of h hp fun e => n1 _ e.symm)]; exact h))
  · exact .inl (.inr ⟨u, by rw [upd_ne (ne_of h hp fun e => n2 _ _ e.symm)]; exact h⟩)
  · exact .inr h
theorem ok_Thing (T : Txt K mg A) (D : InitIn K mg A.Thing "Thing" "Thing.__init__" s_Thing___init__ ["self", "which", "filed", "due", "needs"]) : Maker P w K mg base "Thing" A.Thing 1 ["self", "which", "filed", "due", "needs"] (spInitThing A K) := by
  refine Maker.of D sc_Thing___init__ (fun vs H Q E h => ?_) (fun f cdv Ar outer sh H vs Q E hr h => ?_)
  · obtain ⟨_, _, _, _, _, _, _, rfl, _⟩ := h
    rfl
  · obtain ⟨p, dx, a, x, y, z, l, rfl, hp, hS, q⟩ := h
    refine ⟨_, (pss_cons (ps_fld (pv 0) (pv 1) rfl)
      (pss_cons (ps_fld (pv 0) (pv 2) rfl)
      (pss_cons (ps_fld (pv 0) (pv 3) rfl)
      (pss_cons (ps_fld (pv 0) (pe_callTy call_list_of rfl T.b_list bt_list (pa_cons (pv 4) pa_nil)) rfl)
      (pss_cons (ps_fld (pv 0) pe_bl rfl)
      (pss_one (ps_fld (pv 0) pe_int rfl))))))), ?_⟩
    refine ⟨_, rfl, _, rfl, p, _, dx, [], rfl, hp, T.cl_Thing, T.n_Thing_which, (by show 0 < 1000; decide), ?_⟩
    refine ⟨_, rfl, _, rfl, p, _, dx, _, rfl, upd_same, T.cl_Thing, T.n_Thing_filed, (by show 1 < 1000; decide), ?_⟩
    refine ⟨_, rfl, _, rfl, p, _, dx, _, rfl, upd_same, T.cl_Thing, T.n_Thing_due, (by show 2 < 1000; decide), ?_⟩
    rw [upd_upd, upd_upd]
    refine ⟨_, rfl, a, l, rfl, .inl (SqL.upd hS hp (by intro l z; cases z) (by intro u l z; cases z)), fun n hn => ?_⟩
    have np : n ≠ p := fun e => by rw [e, upd_same] at hn; cases hn
    have hn' : H n = none := by rw [upd_ne np] at hn; exact hn
    refine ⟨_, rfl, p, _, dx, _, rfl, (by rw [upd_ne np.symm]; exact upd_same), T.cl_Thing, T.n_Thing_needs, (by show 3 < 1000; decide), ?_⟩
    refine ⟨_, rfl, p, _, dx, _, rfl, upd_same, T.cl_Thing, T.n_Thing_here, (by show 4 < 1000; decide), ?_⟩
    refine ⟨_, rfl, p, _, dx, _, rfl, upd_same, T.cl_Thing, T.n_Thing_gone_at, (by show 5 < 1000; decide), ?_⟩
    rw [upd_upd, upd_upd]
    refine q _ n hn' np (by rw [upd_ne np]; exact upd_same) upd_same (fun b o e d => ?_) (fun b e => ?_)
    · rw [upd_ne d, upd_ne (ne_of_none e hn'), upd_ne d]
      exact e
    · by_cases c : b = p
      · rw [c, upd_same] at e; cases e
      · rw [upd_ne c] at e
        by_cases c2 : b = n
        · rw [c2]; exact hn'
        · rw [upd_ne c2, upd_ne c] at e
          exact e
def spInitMatter (A : Adr) : Sp := fun vs H Q _ => ∃ (p dx : Addr), vs = [.ref p] ∧ H p = some (.ins A.Matter dx []) ∧
  ∀ (H' : Hp) (q r : Addr), H q = none → H r = none → q ≠ p → r ≠ p → q ≠ r → H' q = some (.dK []) → H' r = some (.dK []) → H' p = some (.ins A.Matter dx (fMt true q r)) → (∀ b o, H b = some o → b ≠ p → H' b = some o) → Q .non H'
theorem ok_Matter (T : Txt K mg A) (D : InitIn K mg A.Matter "Matter" "Matter.__init__" s_Matter___init__ ["self"]) : Maker P w K mg base "Matter" A.Matter 1 ["self"] (spInitMatter A) := by
  refine Maker.of D sc_Matter___init__ (fun vs H Q E h => ?_) (fun f cdv Ar outer sh H vs Q E hr h => ?_)
  · obtain ⟨_, _, rfl, _⟩ := h
    rfl
  · obtain ⟨p, dx, rfl, hp, k⟩ := h
    refine ⟨_, (pss_cons (ps_fld (pv 0) pe_dnewK rfl)
      (pss_cons (ps_fld (pv 0) pe_dnewK rfl)
      (pss_one (ps_fld (pv 0) pe_bl rfl)))), ?_⟩
    intro q hq
    have nq : p ≠ q := ne_of_none hp hq
    refine ⟨_, rfl, p, _, dx, [], rfl, (by rw [upd_ne nq]; exact hp), T.cl_Matter, T.n_Matter_things, (by show 0 < 1000; decide), ?_⟩
    intro r hr
    have rp : r ≠ p := fun e => by rw [e, upd_same] at hr; cases hr
    rw [upd_ne rp] at hr
    have rq : r ≠ q := fun e => by rw [e, upd_same] at hr; cases hr
    rw [upd_ne rq] at hr
    refine ⟨_, rfl, p, _, dx, _, rfl, (by rw [upd_ne rp.symm]; exact upd_same), T.cl_Matter, T.n_Matter_classes, (by show 1 < 1000; decide), ?_⟩
    refine ⟨_, rfl, p, _, dx, _, rfl, upd_same, T.cl_Matter, T.n_Matter_stands, (by show 2 < 1000; decide), ?_⟩
    rw [upd_upd]
    refine k _ q r hq hr nq.symm rp rq.symm ?_ ?_ upd_same (fun b o e d => ?_)
    · rw [upd_ne nq.symm, upd_ne rq.symm, upd_ne nq.symm]; exact upd_same
    · rw [upd_ne rp]; exact upd_same
    · rw [upd_ne d, upd_ne (ne_of_none e hr), upd_ne d, upd_ne (ne_of_none e hq)]
      exact e
def spInitOffice (A : Adr) : Sp := fun vs H Q _ => ∃ (p dx : Addr), vs = [.ref p] ∧ H p = some (.ins A.Office dx []) ∧
  ∀ (H' : Hp) (c t m g : Addr), H c = none → H t = none → H m = none → H g = none → c ≠ t → c ≠ m → t ≠ m → g ≠ c → g ≠ t → g ≠ m → H' c = some (.lst []) → H' t = some (.lst []) → H' m = some (.lst []) → H' g = some (.lst []) → H' p = some (.ins A.Office dx (fOff 0 c t m g)) → (∀ b o, H b = some o → b ≠ p → H' b = some o) → Q .non H'
theorem ok_Office (T : Txt K mg A) (D : InitIn K mg A.Office "Office" "Office.__init__" s_Office___init__ ["self"]) : Maker P w K mg base "Office" A.Office 1 ["self"] (spInitOffice A) := by
  refine Maker.of D sc_Office___init__ (fun vs H Q E h => ?_) (fun f cdv Ar outer sh H vs Q E hr h => ?_)
  · obtain ⟨_, _, rfl, _⟩ := h
    rfl
  · obtain ⟨p, dx, rfl, hp, k⟩ := h
    refine ⟨_, (pss_cons (ps_fld (pv 0) pe_int rfl)
      (pss_cons (ps_fld (pv 0) (pe_lst pa_nil) rfl)
      (pss_cons (ps_fld (pv 0) (pe_lst pa_nil) rfl)
      (pss_cons (ps_fld (pv 0) (pe_lst pa_nil) rfl)
      (pss_one (ps_fld (pv 0) (pe_lst pa_nil) rfl)))))), ?_⟩
    refine ⟨_, rfl, p, _, dx, [], rfl, hp, T.cl_Office, T.n_Office_moment, (by show 0 < 1000; decide), ?_⟩
    refine ⟨Nat.zero_le _, fun c hc => ?_⟩
    have cp : c ≠ p := fun e => by rw [e, upd_same] at hc; cases hc
    rw [upd_ne cp] at hc
    refine ⟨_, rfl, p, _, dx, _, rfl, (by rw [upd_ne cp.symm]; exact upd_same), T.cl_Office, T.n_Office_classes, (by show 1 < 1000; decide), ?_⟩
    refine ⟨Nat.zero_le _, fun t ht => ?_⟩
    have tp : t ≠ p := fun e => by rw [e, upd_same] at ht; cases ht
    rw [upd_ne tp] at ht
    have tc : t ≠ c := fun e => by rw [e, upd_same] at ht; cases ht
    rw [upd_ne tc, upd_ne tp] at ht
    refine ⟨_, rfl, p, _, dx, _, rfl, (by rw [upd_ne tp.symm]; exact upd_same), T.cl_Office, T.n_Office_things, (by show 2 < 1000; decide), ?_⟩
    refine ⟨Nat.zero_le _, fun m hm => ?_⟩
    have mp : m ≠ p := fun e => by rw [e, upd_same] at hm; cases hm
    rw [upd_ne mp] at hm
    have mt : m ≠ t := fun e => by rw [e, upd_same] at hm; cases hm
    rw [upd_ne mt, upd_ne mp] at hm
    have mc : m ≠ c := fun e => by rw [e, upd_same] at hm; cases hm
    rw [upd_ne mc, upd_ne mp] at hm
    refine ⟨_, rfl, p, _, dx, _, rfl, (by rw [upd_ne mp.symm]; exact upd_same), T.cl_Office, T.n_Office_matters, (by show 3 < 1000; decide), ?_⟩
    refine ⟨Nat.zero_le _, fun g hg => ?_⟩
    have gp : g ≠ p := fun e => by rw [e, upd_same] at hg; cases hg
    rw [upd_ne gp] at hg
    have gm : g ≠ m := fun e => by rw [e, upd_same] at hg; cases hg
    rw [upd_ne gm, upd_ne gp] at hg
    have gt : g ≠ t := fun e => by rw [e, upd_same] at hg; cases hg
    rw [upd_ne gt, upd_ne gp] at hg
    have gc : g ≠ c := fun e => by rw [e, upd_same] at hg; cases hg
    rw [upd_ne gc, upd_ne gp] at hg
    refine ⟨_, rfl, p, _, dx, _, rfl, (by rw [upd_ne gp.symm]; exact upd_same), T.cl_Office, T.n_Office_gone, (by show 4 < 1000; decide), ?_⟩
    refine k _ c t m g hc ht hm hg tc.symm mc.symm mt.symm gc gt gm ?_ ?_ ?_ ?_ upd_same (fun b o e d => ?_)
    · rw [upd_ne cp, upd_ne gc.symm, upd_ne cp, upd_ne mc.symm, upd_ne cp, upd_ne tc.symm, upd_ne cp]; exact upd_same
    · rw [upd_ne tp, upd_ne gt.symm, upd_ne tp, upd_ne mt.symm, upd_ne tp]; exact upd_same
    · rw [upd_ne mp, upd_ne gm.symm, upd_ne mp]; exact upd_same
    · rw [upd_ne gp]; exact upd_same
    · rw [upd_ne d, upd_ne (ne_of_none e hg), upd_ne d, upd_ne (ne_of_none e hm), upd_ne d, upd_ne (ne_of_none e ht), upd_ne d, upd_ne (ne_of_none e hc), upd_ne d]
      exact e
end
end KB

set_option Elab.async false
set_option linter.all false
set_option autoImplicit false
set_option maxRecDepth 100000
set_option maxHeartbeats 2000000
namespace KB
open PySem PySem.Spec PyProof.Rows L2
/-! ### a list of which the first i are turned already -/
def upTo {α : Type} (l l' : List α) (i : Nat) : List α := l'.take i ++ l.drop i
section
variable {α : Type} {l l' : List α} {i : Nat}
theorem upTo_zero : upTo l l' 0 = l := by unfold upTo; simp
theorem upTo_all (h : l'.length = l.length) : upTo l l' l.length = l' := by
  unfold upTo
  rw [List.drop_length, List.append_nil, ← h, List.take_length]
theorem upTo_len (h : l'.length = l.length) : (upTo l l' i).length = l.length := by
  unfold upTo
  rw [List.length_append, List.length_take, List.length_drop, h]
  omega
theorem upTo_at {t : α} (h : l'.length = l.length) (e : l[i]? = some t) : (upTo l l' i)[i]? = some t := by
  have hi := (List.getElem?_eq_some_iff.mp e).1
  unfold upTo
  rw [List.getElem?_append_right (by rw [List.length_take, h]; omega), List.length_take, h, List.getElem?_drop, show i + (i - min i l.length) = i by omega]
  exact e
theorem upTo_succ {u : α} (h : l'.length = l.length) (e : l'[i]? = some u) : upTo l l' (i + 1) = (upTo l l' i).set i u := by
  have hi := (List.getElem?_eq_some_iff.mp e).1
  rw [h] at hi
  apply List.ext_getElem?
  intro j
  rw [List.getElem?_set]
  unfold upTo
  by_cases c : i = j
  · subst c
    rw [if_pos rfl, if_pos (by rw [List.length_append, List.length_take, List.length_drop, h]; omega), List.getElem?_append_left (by rw [List.length_take, h]; omega), List.getElem?_take, if_pos (by omega)]
    exact e
  · rw [if_neg c]
    rcases Nat.lt_or_ge j i with d | d
    · rw [List.getElem?_append_left (by rw [List.length_take, h]; omega), List.getElem?_append_left (by rw [List.length_take, h]; omega), List.getElem?_take, List.getElem?_take, if_pos (by omega), if_pos (by omega)]
    · rw [List.getElem?_append_right (by rw [List.length_take, h]; omega), List.getElem?_append_right (by rw [List.length_take, h]; omega), List.length_take, List.length_take, h, List.getElem?_drop, List.getElem?_drop]
      congr 1
      omega
theorem set_self {t : α} (e : l[i]? = some t) : l.set i t = l := by
  apply List.ext_getElem?
  intro j
  rw [List.getElem?_set]
  by_cases c : i = j
  · subst c
    rw [if_pos rfl, if_pos (List.getElem?_eq_some_iff.mp e).1, e]
  · rw [if_neg c]
end
theorem inV_vints (y : Nat) : ∀ ns : List Nat, inV (V.int y) (vints ns) = ns.contains y
  | [] => rfl
  | a :: r => by
    have ih := inV_vints y r
    show (eqV (V.int a) (V.int y) || inV (V.int y) (vints r)) = (a :: r).contains y
    rw [ih, List.contains_cons]
    congr 1
    show ((a : Int) == (y : Int)) = (y == a)
    cases c : (y == a) with
    | true => rw [eq_of_beq c]; exact beq_self_eq_true _
    | false =>
      rw [beq_eq_false_iff_ne] at c ⊢
      omega
theorem flat_vints : ∀ ns : List Nat, (vints ns).all flatV = true
  | [] => rfl
  | a :: r => by
    show (flatV (V.int a) && (vints r).all flatV) = true
    rw [flat_vints r]
    rfl
/-- what is to be true behind an act: the state, the number answered -/
def Aft (A : Adr) (H : Hp) (L : Lo) (s' : Keep.State) (ret : Int) (Q : VK) : Prop := ∀ H' L', Rep A H' L' s' → Fr H L H' L' → L'.a .off = L.a .off → Q (.int ret) H'
section
variable {P : Program} {w : World} {K : PySem.W.Frag} {mg : Str → Option Value} {base : Heap} {A : Adr}
theorem Aft.id {H : Hp} {L : Lo} {s s' : Keep.State} {ret r : Int} {Q : VK} (h : Aft A H L s' ret Q) (R : Rep A H L s) (e : s' = s) (er : ret = r) : Q (.int r) H := by
  subst e er
  exact h H L R (Fr.refl H L) rfl
/-! ### make_class -/
def spMakeClass (A : Adr) : Sp := fun vs H Q _ => ∃ L s, ∃ k e : Nat, Rep A H L s ∧ KM.Wf s ∧ vs = [.ref (L.a .off), .int k, .int e] ∧ Aft A H L (Keep.step s (.cls k e)).1 (Keep.step s (.cls k e)).2.ret Q
theorem ok_make_class (T : Txt K mg A) (D : DefIn K mg "make_class" s_make_class ["office", "keep", "early"]) (m_ThingClass : Maker P w K mg base "ThingClass" A.ThingClass 1 ["self", "keep", "early"] (spInitClass A)) : Callee P w K mg base "make_class" 3 ["office", "keep", "early"] (spMakeClass A) := by
  refine Callee.of D sc_make_class (fun vs H Q E h => ?_) (fun f cdv Ar outer sh H vs Q E hr h => ?_)
  · obtain ⟨_, _, _, _, _, _, rfl, _⟩ := h
    rfl
  · obtain ⟨L, s, k, e, R, W, rfl, q⟩ := h
    obtain ⟨dx, ho⟩ := R.off
    have wrong : (2 ^ 39 ≤ k ∨ 1 < e) → Q (.int (-1)) H := fun z => by
      have st : Keep.step s (.cls k e) = (s, Keep.says (-1)) := if_pos z
      rw [st] at q
      exact q.id R rfl rfl
    refine ⟨_, (pss_cons (ps_if (PW.pt (pw_or (pt_cmpR op_ge (pv 1) (pe_globI rfl T.g_KEEP_LIMIT) (nomark _)) (pw_or1 (pt_cmpR op_gt (pv 2) pe_int (nomark _))))) (pss_one (ps_ret (pe_globI rfl T.g_WRONG))) pss_nil)
      (pss_cons (ps_if (pt_cmpR op_ge (pe_callB call_len_seq rfl T.b_len bt_len (pa_cons (pe_fld (pv 0) rfl) pa_nil)) (pe_globI rfl T.g_MOST_CLASSES) (nomark _)) (pss_one (ps_ret (pe_globI rfl T.g_FULL))) pss_nil)
      (pss_cons (ps_expr (pe_bm PySem.F.plainAttrs_list PySem.F.slot_list_append PySem.F.type_list_append mt_append (pe_fld (pv 0) rfl) (pa_cons (pe_makeC m_ThingClass (hr.mono (by decide)) rfl (pa_cons (pv 1) (pa_cons (pv 2) pa_nil))) pa_nil)))
      (pss_one (ps_ret (pe_op op_sub (pe_callB call_len_seq rfl T.b_len bt_len (pa_cons (pe_fld (pv 0) rfl) pa_nil)) pe_int)))))), ?_⟩
    refine ⟨_, rfl, _, _, rfl, rfl, _, rfl, ite2 (fun c => iteT (wrong (.inl (by have := of_decide_eq_true c; omega)))) (fun c => ⟨_, rfl, _, _, rfl, rfl, _, rfl, ite2 (fun c2 => wrong (.inr (by have := of_decide_eq_true c2; omega))) (fun c2 => ?_)⟩)⟩
    have n1 : ¬ (2 ^ 39 ≤ k ∨ 1 < e) := by
      rintro (z | z)
      · exact c (decide_eq_true (by omega))
      · exact c2 (decide_eq_true (by omega))
    refine ⟨_, rfl, _, _, dx, _, _, rfl, ho, T.cl_Office, T.n_Office_classes, rfl, _, _, rfl, .inl (SqL.of R.cl), _, _, rfl, rfl, _, rfl, ?_⟩
    rw [refs_len]
    refine ite2 (fun c3 => ?_) (fun c3 => ?_)
    · have st : Keep.step s (.cls k e) = (s, Keep.says (-3)) := (if_neg n1).trans (if_pos (by have := of_decide_eq_true c3; show 16 ≤ s.classes.length; omega))
      rw [st] at q
      exact q.id R rfl rfl
    · have n3 : ¬ 16 ≤ s.classes.length := fun z => c3 (decide_eq_true (by omega))
      have st : Keep.step s (.cls k e) = ({ s with classes := s.classes ++ [⟨k, e == 1⟩] }, Keep.says (s.classes.length : Nat)) := (if_neg n1).trans (if_neg n3)
      rw [st] at q
      refine ⟨_, rfl, _, _, dx, _, _, rfl, ho, T.cl_Office, T.n_Office_classes, rfl, .inl ⟨rfl, _, SqL.of R.cl⟩, _, rfl, _, rfl, ?_⟩
      intro x d nx nd ne
      refine ⟨x, d, _, _, rfl, upd_same, rfl, ?_⟩
      rw [upd_upd]
      have S : Same H (upd (upd H d (.own x)) x (.ins A.ThingClass d [("keep", V.int k), ("early", V.int e)])) := fun b o z => by
        rw [upd_ne (ne_of_none z nx), upd_ne (ne_of_none z nd)]
        exact z
      have R2 := R.same S
      obtain ⟨dx2, ho2⟩ := R2.off
      refine ⟨_, _, _, rfl, rfl, R2.cl, by rw [refs_len]; exact size256 (by omega), ?_⟩
      have ef : [(("keep" : Str), V.int k), ("early", V.int e)] = fCls ⟨k, e == 1⟩ := by
        unfold fCls
        rcases (show e = 0 ∨ e = 1 by omega) with z | z
        · subst z; rfl
        · subst z; rfl
      have R3 := R2.pushClass (p := x) (dx := d) (u := ⟨k, e == 1⟩) (R.own x nx) (by rw [← ef]; exact upd_same)
      have F3 : Fr H L _ (L.add (.c s.classes.length) x) := Fr.add nx ((frSame S).trans (R2.frAt (g := .cl) (o := .lst (((List.range s.classes.length).map fun i => V.ref (L.a (.c i))) ++ [V.ref x])) trivial))
      obtain ⟨dx3, ho3⟩ := R3.off
      have cl3 := R3.cl
      have eo : (L.add (.c s.classes.length) x).a .off = L.a .off := add_ne (by intro z; cases z)
      have ec : (L.add (.c s.classes.length) x).a .cl = L.a .cl := add_ne (by intro z; cases z)
      rw [eo] at ho3
      refine ⟨_, rfl, _, _, dx3, _, _, rfl, ho3, T.cl_Office, T.n_Office_classes, rfl, _, _, rfl, .inl (SqL.of (by rw [← ec]; exact cl3)), _, _, rfl, rfl, ?_⟩
      rw [refs_len]
      have := q _ _ R3 F3 eo
      have en : ((((s.classes ++ [(⟨k, e == 1⟩ : Keep.Class)]).length : Nat) : Int) - 1) = (s.classes.length : Nat) := by rw [List.length_append]; show ((s.classes.length + 1 : Nat) : Int) - 1 = _; omega
      show Q (.int ((((s.classes ++ [(⟨k, e == 1⟩ : Keep.Class)]).length : Nat) : Int) - 1)) _
      rw [en]
      exact this
/-! ### make_longer -/
def moved (c : Nat) (x : Keep.Class) (k : Nat) (t : Keep.Thing) : Keep.Thing := if t.cls = c ∧ t.gone = none ∧ t.due = t.filed + x.keep then { t with due := t.filed + k } else t
def spLonger (A : Adr) : Sp := fun vs H Q _ => ∃ L s, ∃ c k : Nat, Rep A H L s ∧ KM.Wf s ∧ vs = [.ref (L.a .off), .int c, .int k] ∧ Aft A H L (Keep.step s (.longer c k)).1 (Keep.step s (.longer c k)).2.ret Q
theorem fTh_here (t : Keep.Thing) (a : Addr) : (fTh t a).lookup ("here" : Str) = some (.bl t.gone.isNone) := rfl
theorem ok_make_longer (T : Txt K mg A) (D : DefIn K mg "make_longer" s_make_longer ["office", "which", "keep"]) : Callee P w K mg base "make_longer" 1 ["office", "which", "keep"] (spLonger A) := by
  refine Callee.of D sc_make_longer (fun vs H Q E h => ?_) (fun f cdv Ar outer sh H vs Q E hr h => ?_)
  · obtain ⟨_, _, _, _, _, _, rfl, _⟩ := h
    rfl
  · obtain ⟨L, s, c, k, R, W, rfl, q⟩ := h
    obtain ⟨dx, ho⟩ := R.off
    refine ⟨_, (pss_cons (ps_if (pt_cmpR op_ge (pv 1) (pe_callB call_len_seq rfl T.b_len bt_len (pa_cons (pe_fld (pv 0) rfl) pa_nil)) (nomark _)) (pss_one (ps_ret (pe_globI rfl T.g_NOT_THERE))) pss_nil)
      (pss_cons (ps_set (i := 3) sc_make_longer.nd rfl (by first | exact Or.inl rfl | exact Or.inr rfl) (pe_ix ix_list (pe_fld (pv 0) rfl) (pv 1) (fun _ _ => rfl)))
      (pss_cons (ps_if (PW.pt (pw_or (pt_cmpR op_ge (pv 2) (pe_globI rfl T.g_KEEP_LIMIT) (nomark _)) (pw_or1 (pt_cmpR op_lt (pv 2) (pe_fld (pv 3) rfl) (nomark _))))) (pss_one (ps_ret (pe_globI rfl T.g_WRONG))) pss_nil)
      (pss_cons (ps_for PassesOwn.never rfl (pi_list (pe_fld (pv 0) rfl)) (pg_name (i := 4) sc_make_longer.nd rfl (by first | exact Or.inl rfl | exact Or.inr rfl)) (pss_cons (ps_set (i := 5) sc_make_longer.nd rfl (by first | exact Or.inl rfl | exact Or.inr rfl) (pe_cmpR op_eq (pe_fld (pv 4) rfl) (pe_op op_add (pe_fld (pv 4) rfl) (pe_fld (pv 3) rfl)) (nomark _)))
      (pss_one (ps_if (PW.pt (pw_and (pt_val (pe_fld (pv 4) rfl)) (pw_and (pt_cmpR op_eq (pe_fld (pv 4) rfl) (pv 1) (nomark _)) (pw_and1 (pt_val (pv 5)))))) (pss_one (ps_fld (pv 4) (pe_op op_add (pe_fld (pv 4) rfl) (pv 2)) rfl)) pss_nil))))
      (pss_cons (ps_fld (pv 3) (pv 2) rfl)
      (pss_one (ps_ret pe_int))))))), ?_⟩
    refine ⟨_, rfl, _, rfl, _, _, dx, _, _, rfl, ho, T.cl_Office, T.n_Office_classes, rfl, _, _, rfl, .inl (SqL.of R.cl), _, _, rfl, rfl, _, rfl, ?_⟩
    rw [refs_len]
    refine ite2 (fun c1 => ?_) (fun c1 => ?_)
    · have st : Keep.step s (.longer c k) = (s, Keep.says (-4)) := by
        have : s.classes[c]? = none := List.getElem?_eq_none (by have := of_decide_eq_true c1; omega)
        show (match s.classes[c]? with | none => _ | some x => _) = _
        rw [this]
      rw [st] at q
      exact q.id R rfl rfl
    · have hc : c < s.classes.length := by
        rcases Nat.lt_or_ge c s.classes.length with z | z
        · exact z
        · exact absurd (decide_eq_true (by omega)) c1
      obtain ⟨x, ex⟩ := get_some hc
      obtain ⟨dc, hcl⟩ := R.c ex
      have st0 : Keep.step s (.longer c k) = if 2 ^ 39 ≤ k ∨ k < x.keep then (s, Keep.says (-1)) else ({ s with classes := s.classes.set c { x with keep := k }, things := s.things.map (moved c x k) }, Keep.says 0) := by
        show (match s.classes[c]? with | none => _ | some x => _) = _
        rw [ex]
        rfl
      rw [st0] at q
      have wrong : (2 ^ 39 ≤ k ∨ k < x.keep) → Q (.int (-1)) H := fun z => by
        rw [if_pos z] at q
        exact q.id R rfl rfl
      refine ⟨_, rfl, _, _, dx, _, _, rfl, ho, T.cl_Office, T.n_Office_classes, rfl, _, rfl, _, _, _, _, rfl, rfl, SqL.of R.cl, atI_nat (refs_get hc), ?_⟩
      refine ⟨_, rfl, _, _, rfl, rfl, _, rfl, ite2 (fun c2 => iteT (wrong (.inl (by have := of_decide_eq_true c2; omega)))) (fun c2 => ⟨_, rfl, _, rfl, _, _, dc, _, _, rfl, hcl, T.cl_ThingClass, T.n_ThingClass_keep, rfl, _, _, rfl, rfl, _, rfl, ite2 (fun c3 => wrong (.inr (by have := of_decide_eq_true c3; omega))) (fun c3 => ?_)⟩)⟩
      have n1 : ¬ (2 ^ 39 ≤ k ∨ k < x.keep) := by
        rintro (z | z)
        · exact c2 (decide_eq_true (by omega))
        · exact c3 (decide_eq_true (by omega))
      rw [if_neg n1] at q
      have lm : (s.things.map (moved c x k)).length = s.things.length := List.length_map _
      refine ⟨_, rfl, _, _, dx, _, _, rfl, ho, T.cl_Office, T.n_Office_things, rfl, _, rfl, ⟨_, SqL.of R.th⟩, for_list (K := K) (a := L.a .th) (xs := (List.range s.things.length).map fun i => V.ref (L.a (.t i)))
        (fun i σ H' => ∃ v u : Option V, σ = [some (.ref (L.a .off)), some (.int c), some (.int k), some (.ref (L.a (.c c))), v, u] ∧ Rep A H' L { s with things := upTo s.things (s.things.map (moved c x k)) i } ∧ Fr H L H' L)
        ⟨none, none, rfl, by rw [upTo_zero]; exact R, Fr.refl H L⟩ (fun i σ H' _ ⟨_, _, _, R2, _⟩ => ?_) ?_ ?_⟩
      · have := R2.th
        rw [upTo_len lm] at this
        exact SqL.of this
      · rintro i y σ H' hi ⟨v, u, rfl, R2, F2⟩
        obtain ⟨li, rfl⟩ := refs_at hi
        obtain ⟨t, e⟩ := get_some li
        have e' := upTo_at (l' := s.things.map (moved c x k)) lm e
        have em : (s.things.map (moved c x k))[i]? = some (moved c x k t) := by rw [List.getElem?_map, e]; rfl
        have gs := upTo_succ lm em
        have ln : i < (upTo s.things (s.things.map (moved c x k)) i).length := by rw [upTo_len lm]; exact li
        obtain ⟨dt, ht⟩ := R2.t e'
        obtain ⟨dc2, hcl2⟩ := R2.c (i := c) (x := x) ex
        refine ⟨_, rfl, _, _, dt, _, _, rfl, ht, T.cl_Thing, T.n_Thing_due, rfl, _, rfl, _, _, dt, _, _, rfl, ht, T.cl_Thing, T.n_Thing_filed, rfl, _, rfl, _, _, dc2, _, _, rfl, hcl2, T.cl_ThingClass, T.n_ThingClass_keep, rfl, _, _, rfl, rfl, rfl, ?_⟩
        have stay : ¬ (t.cls = c ∧ t.gone = none ∧ t.due = t.filed + x.keep) → Rep A H' L { s with things := upTo s.things (s.things.map (moved c x k)) (i + 1) } := fun z => by
          have : moved c x k t = t := if_neg z
          rw [gs, this, set_self e']
          exact R2
        refine ⟨_, rfl, _, _, dt, _, _, rfl, ht, T.cl_Thing, T.n_Thing_here, rfl, _, rfl, ?_⟩
        cases hg : t.gone with
        | some z => exact iteF (iteF ⟨_, _, rfl, stay (fun z => by rw [hg] at z; cases z.2.1), F2⟩)
        | none =>
          refine iteT ⟨_, rfl, _, _, dt, _, _, rfl, ht, T.cl_Thing, T.n_Thing_which, rfl, _, rfl, rfl, _, rfl, ?_⟩
          refine ite2 (fun c4 => ?_) (fun c4 => iteF ⟨_, _, rfl, stay (fun z => c4 (decide_eq_true (by rw [z.1]))), F2⟩)
          have ec : t.cls = c := by
            have := of_decide_eq_true c4
            injection this with this
            omega
          refine ⟨_, rfl, _, rfl, ?_⟩
          refine ite2 (fun c5 => ?_) (fun c5 => ⟨_, _, rfl, stay (fun z => c5 (decide_eq_true (congrArg V.int (by omega)))), F2⟩)
          have ed : t.due = t.filed + x.keep := by
            have := of_decide_eq_true c5
            injection this with this
            omega
          refine ⟨_, rfl, _, _, dt, _, _, rfl, ht, T.cl_Thing, T.n_Thing_filed, rfl, _, rfl, _, _, rfl, rfl, _, rfl, _, _, dt, _, rfl, ht, T.cl_Thing, T.n_Thing_due, (by show 6 < 1000; decide), ?_⟩
          refine ⟨_, _, rfl, ?_, F2.trans (R2.frAt (g := .t i) ln)⟩
          have : moved c x k t = { t with due := t.filed + k } := if_pos ⟨ec, hg, ed⟩
          rw [gs, this]
          exact R2.setThing (u := { t with due := t.filed + k }) e' rfl
      · rintro σ H' ⟨v, u, rfl, R2, F2⟩
        rw [refs_len, upTo_all lm] at R2
        obtain ⟨dc2, hcl2⟩ := R2.c (i := c) (x := x) ex
        refine ⟨_, rfl, _, rfl, _, _, dc2, _, rfl, hcl2, T.cl_ThingClass, T.n_ThingClass_keep, (by show 2 < 1000; decide), ?_⟩
        have R3 := R2.setClass (i := c) (x := x) (u := { x with keep := k }) (dx := dc2) ex
        exact q _ L R3 (F2.trans (R2.frAt (g := .c c) hc)) rfl
end
end KB

set_option Elab.async false
set_option linter.all false
set_option autoImplicit false
set_option maxRecDepth 100000
set_option maxHeartbeats 2000000
namespace KB
open PySem PySem.Spec PyProof.Rows L2
/-! ### what the calls with a moment do, by name -/
def actFile (c : Nat) (l : List Nat) (z : Keep.State) : Keep.State × Keep.Answer := if Keep.NEEDS < l.length then (z, Keep.says (-2)) else if Keep.rising l = false then (z, Keep.says (-1)) else match z.classes[c]? with
    | none => (z, Keep.says (-4))
    | some x => if l.all z.here = false then (z, Keep.says (-4)) else if Keep.THINGS ≤ z.things.length then (z, Keep.says (-3)) else ({ z with things := z.things ++ [⟨c, z.now, z.now + x.keep, l, none⟩] }, Keep.says (z.things.length : Nat))
def actNeed (x y : Nat) (z : Keep.State) : Keep.State × Keep.Answer := match z.thing x with
    | none => (z, Keep.says (-4))
    | some t => if z.here x = false ∨ z.here y = false then (z, Keep.says (-4)) else if t.needs.contains y = true then (z, Keep.says 1) else if Keep.NEEDS ≤ t.needs.length then (z, Keep.says (-3)) else ({ z with things := z.things.set x { t with needs := Keep.joined t.needs [y] } }, Keep.says 0)
def actAsk (x : Nat) (z : Keep.State) : Keep.State × Keep.Answer := match z.thing x with
    | none => (z, Keep.says (-4))
    | some t => if t.gone ≠ none then (z, Keep.says 1) else if ((z.classes[t.cls]?).map Keep.Class.early).getD false = false then (z, Keep.says (-9)) else ({ z with things := z.things.set x { t with due := min t.due z.now } }, Keep.says 0)
section
variable {P : Program} {w : World} {K : PySem.W.Frag} {mg : Str → Option Value} {base : Heap} {A : Adr}
theorem len_snoc {α : Type} (l : List α) (x : α) : (((l ++ [x]).length : Nat) : Int) - 1 = (l.length : Nat) := by
  rw [List.length_append]
  show ((l.length + 1 : Nat) : Int) - 1 = _
  omega
/-! ### file_thing -/
def spFile (A : Adr) (K : PySem.W.Frag) : Sp := fun vs H Q _ => ∃ L s a, ∃ (c : Nat) (l : List Nat), Rep A H L s ∧ KM.Wf s ∧ vs = [.ref (L.a .off), .int c, .ref a] ∧ SqL K H a (vints l) ∧ l.length ≤ 300 ∧ Aft A H L (actFile c l s).1 (actFile c l s).2.ret Q
theorem ok_file_thing (T : Txt K mg A) (D : DefIn K mg "file_thing" s_file_thing ["office", "which", "needs"]) (c_is_rising : Callee P w K mg base "is_rising" 1 ["numbers"] (spRising K)) (c_all_here : Callee P w K mg base "all_here" 2 ["office", "numbers"] (spAllHere A K))
    (m_Thing : Maker P w K mg base "Thing" A.Thing 1 ["self", "which", "filed", "due", "needs"] (spInitThing A K)) : Callee P w K mg base "file_thing" 3 ["office", "which", "needs"] (spFile A K) := by
  refine Callee.of D sc_file_thing (fun vs H Q E h => ?_) (fun f cdv Ar outer sh H vs Q E hr h => ?_)
  · obtain ⟨_, _, _, _, _, _, _, rfl, _⟩ := h
    rfl
  · obtain ⟨L, s, a, c, l, R, W, rfl, hS, hl, q⟩ := h
    obtain ⟨dx, ho⟩ := R.off
    refine ⟨_, (pss_cons (ps_if (pt_cmpR op_gt (pe_callB call_len_seq rfl T.b_len bt_len (pa_cons (pv 2) pa_nil)) (pe_globI rfl T.g_MOST_NEEDS) (nomark _)) (pss_one (ps_ret (pe_globI rfl T.g_TOO_MANY))) pss_nil)
      (pss_cons (ps_if (pt_not (pt_val (pe_callC c_is_rising (hr.mono (by decide)) rfl (pa_cons (pv 2) pa_nil)))) (pss_one (ps_ret (pe_globI rfl T.g_WRONG))) pss_nil)
      (pss_cons (ps_if (pt_cmpR op_ge (pv 1) (pe_callB call_len_seq rfl T.b_len bt_len (pa_cons (pe_fld (pv 0) rfl) pa_nil)) (nomark _)) (pss_one (ps_ret (pe_globI rfl T.g_NOT_THERE))) pss_nil)
      (pss_cons (ps_if (pt_not (pt_val (pe_callC c_all_here (hr.mono (by decide)) rfl (pa_cons (pv 0) (pa_cons (pv 2) pa_nil))))) (pss_one (ps_ret (pe_globI rfl T.g_NOT_THERE))) pss_nil)
      (pss_cons (ps_if (pt_cmpR op_ge (pe_callB call_len_seq rfl T.b_len bt_len (pa_cons (pe_fld (pv 0) rfl) pa_nil)) (pe_globI rfl T.g_MOST_THINGS) (nomark _)) (pss_one (ps_ret (pe_globI rfl T.g_FULL))) pss_nil)
      (pss_cons (ps_set (i := 3) sc_file_thing.nd rfl (by first | exact Or.inl rfl | exact Or.inr rfl) (pe_op op_add (pe_fld (pv 0) rfl) (pe_fld (pe_ix ix_list (pe_fld (pv 0) rfl) (pv 1) (fun _ _ => rfl)) rfl)))
      (pss_cons (ps_expr (pe_bm PySem.F.plainAttrs_list PySem.F.slot_list_append PySem.F.type_list_append mt_append (pe_fld (pv 0) rfl) (pa_cons (pe_makeC m_Thing (hr.mono (by decide)) rfl (pa_cons (pv 1) (pa_cons (pe_fld (pv 0) rfl) (pa_cons (pv 3) (pa_cons (pv 2) pa_nil))))) pa_nil)))
      (pss_one (ps_ret (pe_op op_sub (pe_callB call_len_seq rfl T.b_len bt_len (pa_cons (pe_fld (pv 0) rfl) pa_nil)) pe_int)))))))))), ?_⟩
    unfold actFile at q
    refine ⟨_, rfl, a, _, rfl, .inl hS, _, _, rfl, rfl, _, rfl, ?_⟩
    rw [vints_len]
    refine ite2 (fun c1 => ?_) (fun c1 => ?_)
    · rw [if_pos (show Keep.NEEDS < l.length by have := of_decide_eq_true c1; show 16 < l.length; omega)] at q
      exact q.id R rfl rfl
    have n1 : ¬ Keep.NEEDS < l.length := fun z => c1 (decide_eq_true (by have z' : 16 < l.length := z; omega))
    rw [if_neg n1] at q
    refine ⟨_, rfl, a, l, rfl, hS, hl, _, rfl, ?_⟩
    cases hri : Keep.rising l with
    | false =>
      rw [if_pos hri] at q
      exact iteT (q.id R rfl rfl)
    | true =>
      rw [if_neg (by rw [hri]; exact fun z => Bool.noConfusion z)] at q
      refine iteF ⟨_, rfl, _, rfl, _, _, dx, _, _, rfl, ho, T.cl_Office, T.n_Office_classes, rfl, _, _, rfl, .inl (SqL.of R.cl), _, _, rfl, rfl, _, rfl, ?_⟩
      rw [refs_len]
      refine ite2 (fun c2 => ?_) (fun c2 => ?_)
      · rw [List.getElem?_eq_none (by have := of_decide_eq_true c2; omega)] at q
        exact q.id R rfl rfl
      have hc : c < s.classes.length := by
        rcases Nat.lt_or_ge c s.classes.length with z | z
        · exact z
        · exact absurd (decide_eq_true (by omega)) c2
      obtain ⟨x, ex⟩ := get_some hc
      rw [ex] at q
      dsimp only at q
      refine ⟨_, rfl, _, rfl, L, s, a, l, R, rfl, hS, _, rfl, ?_⟩
      cases hal : l.all s.here with
      | false =>
        rw [if_pos hal] at q
        exact iteT (q.id R rfl rfl)
      | true =>
        rw [if_neg (by rw [hal]; exact fun z => Bool.noConfusion z)] at q
        refine iteF ⟨_, rfl, _, _, dx, _, _, rfl, ho, T.cl_Office, T.n_Office_things, rfl, _, _, rfl, .inl (SqL.of R.th), _, _, rfl, rfl, _, rfl, ?_⟩
        rw [refs_len]
        refine ite2 (fun c3 => ?_) (fun c3 => ?_)
        · rw [if_pos (show Keep.THINGS ≤ s.things.length by have := of_decide_eq_true c3; show 256 ≤ s.things.length; omega)] at q
          exact q.id R rfl rfl
        have n3 : ¬ 256 ≤ s.things.length := fun z => c3 (decide_eq_true (by omega))
        rw [if_neg (show ¬ Keep.THINGS ≤ s.things.length from n3)] at q
        obtain ⟨dc, hcl⟩ := R.c ex
        -- due = office.moment + office.classes[which].keep
        refine ⟨_, rfl, _, _, dx, _, _, rfl, ho, T.cl_Office, T.n_Office_moment, rfl, _, rfl, _, _, dx, _, _, rfl, ho, T.cl_Office, T.n_Office_classes, rfl, _, rfl, _, _, _, _, rfl, rfl, SqL.of R.cl, atI_nat (refs_get hc), _, _, dc, _, _, rfl, hcl, T.cl_ThingClass, T.n_ThingClass_keep, rfl, _, _, rfl, rfl, ?_⟩
        -- office.things.append(Thing(..))
        refine ⟨_, rfl, _, _, dx, _, _, rfl, ho, T.cl_Office, T.n_Office_things, rfl, .inl ⟨rfl, _, SqL.of R.th⟩, _, rfl, _, rfl, _, _, dx, _, _, rfl, ho, T.cl_Office, T.n_Office_moment, rfl, _, rfl, _, rfl, ?_⟩
        intro p d np nd ne
        have hS1 : SqL K (upd (upd H d (.own p)) p (.ins A.Thing d [])) a (vints l) := Same.seq (fun b o z => by rw [upd_ne (ne_of_none z np), upd_ne (ne_of_none z nd)]; exact z) hS
        refine ⟨p, d, a, _, _, _, _, rfl, upd_same, hS1, fun H2 n hn hnp h2n h2p k2 _ => ⟨rfl, ?_⟩⟩
        have S : Same H H2 := Same.made np nd k2
        have nH : H n = none := by
          rw [upd_ne hnp] at hn
          by_cases z : n = d
          · rw [z]; exact nd
          · rw [upd_ne z] at hn; exact hn
        have R2 := R.same S
        refine ⟨_, _, _, rfl, rfl, R2.th, by rw [refs_len]; exact size256 (by omega), ?_⟩
        have R3 := R2.pushThing (p := p) (q := n) (dx := d) (u := ⟨c, s.now, s.now + x.keep, l, none⟩) (R.own p np) (R.own n nH) hnp.symm h2p h2n
        have F3 : Fr H L _ ((L.add (.t s.things.length) p).add (.n s.things.length) n) := Fr.add nH (Fr.add np ((frSame S).trans (R2.frAt (g := .th) (o := .lst (((List.range s.things.length).map fun i => V.ref (L.a (.t i))) ++ [V.ref p])) trivial)))
        obtain ⟨dx3, ho3⟩ := R3.off
        have th3 := R3.th
        have eo : ((L.add (.t s.things.length) p).add (.n s.things.length) n).a .off = L.a .off := by rw [add_ne (by intro z; cases z), add_ne (by intro z; cases z)]
        have et : ((L.add (.t s.things.length) p).add (.n s.things.length) n).a .th = L.a .th := by rw [add_ne (by intro z; cases z), add_ne (by intro z; cases z)]
        rw [eo] at ho3
        rw [et] at th3
        rw [et] at ho3
        refine ⟨_, rfl, _, _, dx3, _, _, rfl, ho3, T.cl_Office, T.n_Office_things, rfl, _, _, rfl, .inl (SqL.of th3), _, _, rfl, rfl, ?_⟩
        rw [refs_len]
        have := q _ _ R3 F3 eo
        show Q (.int ((((s.things ++ [_]).length : Nat) : Int) - 1)) _
        rw [len_snoc]
        exact this
/-! ### add_need -/
def spNeed (A : Adr) : Sp := fun vs H Q _ => ∃ L s, ∃ (x y : Nat), Rep A H L s ∧ KM.Wf s ∧ vs = [.ref (L.a .off), .int x, .int y] ∧ Aft A H L (actNeed x y s).1 (actNeed x y s).2.ret Q
theorem ok_add_need (T : Txt K mg A) (D : DefIn K mg "add_need" s_add_need ["office", "x", "y"]) (c_is_here : Callee P w K mg base "is_here" 1 ["office", "x"] (spIsHere A)) : Callee P w K mg base "add_need" 2 ["office", "x", "y"] (spNeed A) := by
  refine Callee.of D sc_add_need (fun vs H Q E h => ?_) (fun f cdv Ar outer sh H vs Q E hr h => ?_)
  · obtain ⟨_, _, _, _, _, _, rfl, _⟩ := h
    rfl
  · obtain ⟨L, s, x, y, R, W, rfl, q⟩ := h
    obtain ⟨dx, ho⟩ := R.off
    unfold actNeed at q
    have no : s.here x = false ∨ s.here y = false → Q (.int (-4)) H := fun z => by
      cases e : s.thing x with
      | none =>
        rw [e] at q
        exact q.id R rfl rfl
      | some t =>
        rw [e] at q
        dsimp only at q
        rw [if_pos z] at q
        exact q.id R rfl rfl
    refine ⟨_, (pss_cons (ps_if (PW.pt (pw_or (pt_not (pt_val (pe_callC c_is_here (hr.mono (by decide)) rfl (pa_cons (pv 0) (pa_cons (pv 1) pa_nil))))) (pw_or1 (pt_not (pt_val (pe_callC c_is_here (hr.mono (by decide)) rfl (pa_cons (pv 0) (pa_cons (pv 2) pa_nil)))))))) (pss_one (ps_ret (pe_globI rfl T.g_NOT_THERE))) pss_nil)
      (pss_cons (ps_set (i := 3) sc_add_need.nd rfl (by first | exact Or.inl rfl | exact Or.inr rfl) (pe_fld (pe_ix ix_list (pe_fld (pv 0) rfl) (pv 1) (fun _ _ => rfl)) rfl))
      (pss_cons (ps_if (pt_cmpR op_in_seq (pv 2) (pv 3) rfl) (pss_one (ps_ret pe_int)) pss_nil)
      (pss_cons (ps_if (pt_cmpR op_ge (pe_callB call_len_seq rfl T.b_len bt_len (pa_cons (pv 3) pa_nil)) (pe_globI rfl T.g_MOST_NEEDS) (nomark _)) (pss_one (ps_ret (pe_globI rfl T.g_FULL))) pss_nil)
      (pss_cons (ps_expr (pe_bm PySem.F.plainAttrs_list PySem.F.slot_list_append PySem.F.type_list_append mt_append (pv 3) (pa_cons (pv 2) pa_nil)))
      (pss_one (ps_ret pe_int))))))), ?_⟩
    refine ⟨_, rfl, _, rfl, L, s, x, R, rfl, _, rfl, ?_⟩
    cases hx : s.here x with
    | false => exact iteT (iteT (no (.inl hx)))
    | true =>
      refine iteF ⟨_, rfl, _, rfl, L, s, y, R, rfl, _, rfl, ?_⟩
      cases hy : s.here y with
      | false => exact iteT (no (.inr hy))
      | true =>
        obtain ⟨t, e, g⟩ := KM.here_iff.mp hx
        have hlt := KM.here_lt hx
        have e' : s.thing x = some t := e
        rw [e'] at q
        dsimp only at q
        rw [if_neg (by rw [hx, hy]; rintro (z | z) <;> cases z)] at q
        obtain ⟨dt, ht⟩ := R.t e
        obtain ⟨ns, pn, hns⟩ := R.n e
        have o := W.th x t e
        have lns : ns.length = t.needs.length := pn.length_eq
        refine iteF ⟨_, rfl, _, _, dx, _, _, rfl, ho, T.cl_Office, T.n_Office_things, rfl, _, rfl, _, _, _, _, rfl, rfl, SqL.of R.th, atI_nat (refs_get hlt), _, _, dt, _, _, rfl, ht, T.cl_Thing, T.n_Thing_needs, rfl, ?_⟩
        refine ⟨_, rfl, _, rfl, _, _, rfl, .inl (SqL.of hns), rfl, flat_vints ns, _, rfl, ?_⟩
        rw [if_neg Bool.false_ne_true, inV_vints]
        have ec : ns.contains y = t.needs.contains y := by
          cases c : t.needs.contains y with
          | true => exact List.contains_iff_mem.mpr (pn.mem_iff.mpr (List.contains_iff_mem.mp c))
          | false =>
            cases c2 : ns.contains y with
            | false => rfl
            | true => rw [List.contains_iff_mem.mpr (pn.mem_iff.mp (List.contains_iff_mem.mp c2))] at c; cases c
        rw [ec]
        cases c1 : t.needs.contains y with
        | true =>
          rw [if_pos c1] at q
          exact iteT (q.id R rfl rfl)
        | false =>
          rw [if_neg (by rw [c1]; exact Bool.false_ne_true)] at q
          refine iteF ⟨_, rfl, _, _, rfl, .inl (SqL.of hns), _, _, rfl, rfl, _, rfl, ?_⟩
          rw [vints_len]
          refine ite2 (fun c2 => ?_) (fun c2 => ?_)
          · rw [if_pos (show Keep.NEEDS ≤ t.needs.length by have := of_decide_eq_true c2; show 16 ≤ t.needs.length; omega)] at q
            exact q.id R rfl rfl
          · have n2 : ¬ 16 ≤ ns.length := fun z => c2 (decide_eq_true (by omega))
            rw [if_neg (show ¬ Keep.NEEDS ≤ t.needs.length by rw [← lns]; exact n2)] at q
            refine ⟨_, rfl, .inl ⟨rfl, _, SqL.of hns⟩, _, rfl, _, _, _, rfl, rfl, hns, (by rw [vints_len]; exact size256 (by omega)), ?_⟩
            rw [vints_snoc]
            have hyn : y ∉ t.needs := fun z => by rw [List.contains_iff_mem.mpr z] at c1; cases c1
            have hp : (ns ++ [y]).Perm (Keep.joined t.needs [y]) := by
              refine (List.perm_ext_iff_of_nodup (nodup_snoc (pn.nodup_iff.mpr (KM.rising_nodup o.ris)) fun z => hyn (pn.mem_iff.mp z)) (KM.nodup_joined (KM.rising_nodup o.ris) (by simp))).mpr fun z => ?_
              rw [KM.mem_joined, List.mem_append, pn.mem_iff]
            exact q _ L (R.setNeeds (u := { t with needs := Keep.joined t.needs [y] }) e hp (fun a => rfl)) (R.frAt (g := .n x) hlt) rfl
/-! ### ask_thing -/
def spAsk (A : Adr) : Sp := fun vs H Q _ => ∃ L s, ∃ (x : Nat), Rep A H L s ∧ KM.Wf s ∧ vs = [.ref (L.a .off), .int x] ∧ Aft A H L (actAsk x s).1 (actAsk x s).2.ret Q
theorem ok_ask_thing (T : Txt K mg A) (D : DefIn K mg "ask_thing" s_ask_thing ["office", "x"]) : Callee P w K mg base "ask_thing" 1 ["office", "x"] (spAsk A) := by
  refine Callee.of D sc_ask_thing (fun vs H Q E h => ?_) (fun f cdv Ar outer sh H vs Q E hr h => ?_)
  · obtain ⟨_, _, _, _, _, rfl, _⟩ := h
    rfl
  · obtain ⟨L, s, x, R, W, rfl, q⟩ := h
    obtain ⟨dx, ho⟩ := R.off
    unfold actAsk at q
    refine ⟨_, (pss_cons (ps_if (pt_cmpR op_ge (pv 1) (pe_callB call_len_seq rfl T.b_len bt_len (pa_cons (pe_fld (pv 0) rfl) pa_nil)) (nomark _)) (pss_one (ps_ret (pe_globI rfl T.g_NOT_THERE))) pss_nil)
      (pss_cons (ps_set (i := 2) sc_ask_thing.nd rfl (by first | exact Or.inl rfl | exact Or.inr rfl) (pe_ix ix_list (pe_fld (pv 0) rfl) (pv 1) (fun _ _ => rfl)))
      (pss_cons (ps_if (pt_not (pt_val (pe_fld (pv 2) rfl))) (pss_one (ps_ret pe_int)) pss_nil)
      (pss_cons (ps_if (pt_cmpR op_eq (pe_fld (pe_ix ix_list (pe_fld (pv 0) rfl) (pe_fld (pv 2) rfl) (fun _ _ => rfl)) rfl) pe_int (nomark _)) (pss_one (ps_ret (pe_globI rfl T.g_NOT_LET))) pss_nil)
      (pss_cons (ps_fld (pv 2) (pe_callB (call_min2 rfl) rfl T.b_min bt_min (pa_cons (pe_fld (pv 2) rfl) (pa_cons (pe_fld (pv 0) rfl) pa_nil))) rfl)
      (pss_one (ps_ret pe_int))))))), ?_⟩
    refine ⟨_, rfl, _, rfl, _, _, dx, _, _, rfl, ho, T.cl_Office, T.n_Office_things, rfl, _, _, rfl, .inl (SqL.of R.th), _, _, rfl, rfl, _, rfl, ?_⟩
    rw [refs_len]
    refine ite2 (fun c1 => ?_) (fun c1 => ?_)
    · have e : s.thing x = none := List.getElem?_eq_none (by have := of_decide_eq_true c1; omega)
      rw [e] at q
      exact q.id R rfl rfl
    have hlt : x < s.things.length := by
      rcases Nat.lt_or_ge x s.things.length with z | z
      · exact z
      · exact absurd (decide_eq_true (by omega)) c1
    obtain ⟨t, e⟩ := get_some hlt
    have e' : s.thing x = some t := e
    rw [e'] at q
    dsimp only at q
    obtain ⟨dt, ht⟩ := R.t e
    have o := W.th x t e
    refine ⟨_, rfl, _, _, dx, _, _, rfl, ho, T.cl_Office, T.n_Office_things, rfl, _, rfl, _, _, _, _, rfl, rfl, SqL.of R.th, atI_nat (refs_get hlt), ?_⟩
    refine ⟨_, rfl, _, _, dt, _, _, rfl, ht, T.cl_Thing, T.n_Thing_here, rfl, _, rfl, ?_⟩
    cases hg : t.gone with
    | some z =>
      rw [if_pos (by rw [hg]; intro z; cases z)] at q
      exact iteT (q.id R rfl rfl)
    | none =>
      rw [if_neg (by rw [hg]; exact fun z => z rfl)] at q
      obtain ⟨x2, ex⟩ := get_some o.cls
      obtain ⟨dc, hcl⟩ := R.c ex
      rw [ex] at q
      have q' : Aft A H L (if x2.early = false then (s, Keep.says (-9)) else ({ s with things := s.things.set x { t with due := min t.due s.now } }, Keep.says 0)).1 (if x2.early = false then (s, Keep.says (-9)) else ({ s with things := s.things.set x { t with due := min t.due s.now } }, Keep.says 0)).2.ret Q := q
      refine iteF ⟨_, rfl, _, _, dx, _, _, rfl, ho, T.cl_Office, T.n_Office_classes, rfl, _, rfl, _, _, dt, _, _, rfl, ht, T.cl_Thing, T.n_Thing_which, rfl, _, _, _, _, rfl, rfl, SqL.of R.cl, atI_nat (refs_get o.cls), _, _, dc, _, _, rfl, hcl, T.cl_ThingClass, T.n_ThingClass_early, rfl, rfl, _, rfl, ?_⟩
      cases he : x2.early with
      | false =>
        rw [if_pos he] at q'
        refine iteT (q'.id R rfl rfl)
      | true =>
        rw [if_neg (by rw [he]; exact fun z => Bool.noConfusion z)] at q'
        refine iteF ⟨_, rfl, _, _, dt, _, _, rfl, ht, T.cl_Thing, T.n_Thing_due, rfl, _, rfl, _, _, dx, _, _, rfl, ho, T.cl_Office, T.n_Office_moment, rfl, _, _, rfl, _, rfl, _, _, dt, _, rfl, ht, T.cl_Thing, T.n_Thing_due, (by show 6 < 1000; decide), ?_⟩
        have em : (if (s.now : Int) < (t.due : Int) then (s.now : Int) else (t.due : Int)) = ((min t.due s.now : Nat) : Int) := by
          split <;> omega
        rw [em]
        exact q' _ L (R.setThing (u := { t with due := min t.due s.now }) e rfl) (R.frAt (g := .t x) hlt) rfl
end
end KB

set_option Elab.async false
set_option linter.all false
set_option autoImplicit false
set_option maxRecDepth 100000
set_option maxHeartbeats 2000000
namespace KB
open PySem PySem.Spec PyProof.Rows L2
theorem upd_id {H : Hp} {a : Addr} {o : HO} (h : H a = some o) : upd H a o = H := by
  funext b
  unfold upd
  split
  · rename_i e; rw [e, h]
  · rfl
theorem mem_insAll {x : Nat} : ∀ (t l : List Nat), x ∈ t.foldl ins1 l ↔ x ∈ l ∨ x ∈ t
  | [], l => by simp
  | a :: t, l => by
    show x ∈ t.foldl ins1 (ins1 l a) ↔ _
    rw [mem_insAll t, mem_ins1, List.mem_cons, or_assoc]
theorem nodup_insAll : ∀ (t l : List Nat), l.Nodup → (t.foldl ins1 l).Nodup
  | [], l, h => h
  | a :: t, l, h => nodup_insAll t (ins1 l a) (nodup_ins1 h)
theorem len_ins1 (l : List Nat) (x : Nat) : (ins1 l x).length ≤ l.length + 1 := by
  unfold ins1
  split
  · omega
  · simp
theorem len_insAll : ∀ (t l : List Nat), (t.foldl ins1 l).length ≤ l.length + t.length
  | [], l => Nat.le_refl _
  | a :: t, l => by
    have h1 := len_insAll t (ins1 l a)
    have h2 := len_ins1 l a
    show (t.foldl ins1 (ins1 l a)).length ≤ l.length + (t.length + 1)
    omega
theorem perm_insAll {l l' t : List Nat} (p : l.Perm l') (hl : l'.Nodup) (ht : t.Nodup) : (t.foldl ins1 l).Perm (Keep.joined l' t) :=
  (List.perm_ext_iff_of_nodup (nodup_insAll t l (p.nodup_iff.mpr hl)) (KM.nodup_joined hl ht)).mpr fun x => by rw [mem_insAll, KM.mem_joined, p.mem_iff]
theorem perm_insNew {t : List Nat} (ht : t.Nodup) : (t.foldl ins1 []).Perm t :=
  (List.perm_ext_iff_of_nodup (nodup_insAll t [] (by simp)) ht).mpr fun x => by rw [mem_insAll]; simp
def faultOf : Option Keep.Answer → Int
  | some a => a.ret
  | none => 0
theorem names_some {s : Keep.State} {t c : List Nat} {a : Keep.Answer} (h : s.names t c = some a) : a.ret < 0 := by
  unfold Keep.State.names at h
  split at h
  · cases h; decide
  · split at h
    · cases h; decide
    · split at h
      · cases h
      · cases h; decide
def actMatter (t c : List Nat) (z : Keep.State) : Keep.State × Keep.Answer := match z.names t c with
    | some a => (z, a)
    | none => if Keep.MATTERS ≤ z.matters.length then (z, Keep.says (-3)) else ({ z with matters := z.matters ++ [⟨t, c, true⟩] }, Keep.says (z.matters.length : Nat))
def actMore (m : Nat) (t c : List Nat) (z : Keep.State) : Keep.State × Keep.Answer := match z.names t c with
    | some a => (z, a)
    | none => match z.matters[m]? with
      | none => (z, Keep.says (-4))
      | some x => if x.stands = false then (z, Keep.says (-3)) else ({ z with matters := z.matters.set m { x with things := Keep.joined x.things t, classes := Keep.joined x.classes c } }, Keep.says 0)
def actRelease (m : Nat) (z : Keep.State) : Keep.State × Keep.Answer := match z.matters[m]? with
    | none => (z, Keep.says (-4))
    | some x => if x.stands = false then (z, Keep.says (-3)) else ({ z with matters := z.matters.set m { x with stands := false } }, Keep.says 0)
def matterFault (z : Keep.State) (m : Nat) : Int := match z.matters[m]? with
    | none => -4
    | some x => if x.stands = false then -3 else 0
section
variable {P : Program} {w : World} {K : PySem.W.Frag} {mg : Str → Option Value} {base : Heap} {A : Adr}
/-! ### fault_of_names -/
def spNames (A : Adr) (K : PySem.W.Frag) : Sp := fun vs H Q _ => ∃ L s a b, ∃ (t c : List Nat), Rep A H L s ∧ vs = [.ref (L.a .off), .ref a, .ref b] ∧ SqL K H a (vints t) ∧ SqL K H b (vints c) ∧ t.length ≤ 300 ∧ c.length ≤ 300 ∧ Q (.int (faultOf (s.names t c))) H
theorem ok_fault_of_names (T : Txt K mg A) (D : DefIn K mg "fault_of_names" s_fault_of_names ["office", "things", "classes"]) (c_is_rising : Callee P w K mg base "is_rising" 1 ["numbers"] (spRising K)) (c_all_here : Callee P w K mg base "all_here" 2 ["office", "numbers"] (spAllHere A K))
    (c_all_classes : Callee P w K mg base "all_classes" 1 ["office", "numbers"] (spAllClasses A K)) : Callee P w K mg base "fault_of_names" 3 ["office", "things", "classes"] (spNames A K) := by
  refine Callee.of D sc_fault_of_names (fun vs H Q E h => ?_) (fun f cdv Ar outer sh H vs Q E hr h => ?_)
  · obtain ⟨_, _, _, _, _, _, _, rfl, _⟩ := h
    rfl
  · obtain ⟨L, s, a, b, t, c, R, rfl, ha, hb, ht, hc, q⟩ := h
    unfold Keep.State.names at q
    refine ⟨_, (pss_cons (ps_if (PW.pt (pw_or (pt_cmpR op_gt (pe_callB call_len_seq rfl T.b_len bt_len (pa_cons (pv 1) pa_nil)) (pe_globI rfl T.g_MOST_NAMED) (nomark _)) (pw_or1 (pt_cmpR op_gt (pe_callB call_len_seq rfl T.b_len bt_len (pa_cons (pv 2) pa_nil)) (pe_globI rfl T.g_MOST_NAMED) (nomark _))))) (pss_one (ps_ret (pe_globI rfl T.g_TOO_MANY))) pss_nil)
      (pss_cons (ps_if (PW.pt (pw_or (pt_not (pt_val (pe_callC c_is_rising (hr.mono (by decide)) rfl (pa_cons (pv 1) pa_nil)))) (pw_or1 (pt_not (pt_val (pe_callC c_is_rising (hr.mono (by decide)) rfl (pa_cons (pv 2) pa_nil))))))) (pss_one (ps_ret (pe_globI rfl T.g_WRONG))) pss_nil)
      (pss_cons (ps_if (PW.pt (pw_or (pt_not (pt_val (pe_callC c_all_here (hr.mono (by decide)) rfl (pa_cons (pv 0) (pa_cons (pv 1) pa_nil))))) (pw_or1 (pt_not (pt_val (pe_callC c_all_classes (hr.mono (by decide)) rfl (pa_cons (pv 0) (pa_cons (pv 2) pa_nil)))))))) (pss_one (ps_ret (pe_globI rfl T.g_NOT_THERE))) pss_nil)
      (pss_one (ps_ret pe_int))))), ?_⟩
    have many : 256 < t.length ∨ 256 < c.length → Q (.int (-2)) H := fun z => by
      rw [if_pos (show Keep.LIST < t.length ∨ Keep.LIST < c.length from z)] at q
      exact q
    refine ⟨_, rfl, a, _, rfl, .inl ha, _, _, rfl, rfl, _, rfl, ?_⟩
    rw [vints_len]
    refine ite2 (fun c1 => iteT (many (.inl (by have := of_decide_eq_true c1; omega)))) (fun c1 => ⟨_, rfl, b, _, rfl, .inl hb, _, _, rfl, rfl, _, rfl, ?_⟩)
    rw [vints_len]
    refine ite2 (fun c2 => many (.inr (by have := of_decide_eq_true c2; omega))) (fun c2 => ?_)
    have n1 : ¬ (Keep.LIST < t.length ∨ Keep.LIST < c.length) := by
      rintro (z | z)
      · have z' : 256 < t.length := z
        exact c1 (decide_eq_true (by omega))
      · have z' : 256 < c.length := z
        exact c2 (decide_eq_true (by omega))
    rw [if_neg n1] at q
    have wrong : Keep.rising t = false ∨ Keep.rising c = false → Q (.int (-1)) H := fun z => by
      rw [if_pos z] at q
      exact q
    refine ⟨_, rfl, a, t, rfl, ha, ht, _, rfl, ?_⟩
    cases r1 : Keep.rising t with
    | false => exact iteT (iteT (wrong (.inl r1)))
    | true =>
      refine iteF ⟨_, rfl, b, c, rfl, hb, hc, _, rfl, ?_⟩
      cases r2 : Keep.rising c with
      | false => exact iteT (wrong (.inr r2))
      | true =>
        rw [if_neg (by rw [r1, r2]; rintro (z | z) <;> cases z)] at q
        refine iteF ⟨_, rfl, _, rfl, L, s, a, t, R, rfl, ha, _, rfl, ?_⟩
        cases a1 : t.all s.here with
        | false =>
          rw [if_neg (by rw [a1]; exact fun z => Bool.noConfusion z.1)] at q
          exact iteT (iteT q)
        | true =>
          refine iteF ⟨_, rfl, _, rfl, L, s, b, c, R, rfl, hb, _, rfl, ?_⟩
          cases a2 : c.all (fun (k : Nat) => decide (k < s.classes.length)) with
          | false =>
            rw [if_neg (by rw [a2]; exact fun z => Bool.noConfusion z.2)] at q
            exact iteT q
          | true =>
            rw [if_pos ⟨a1, a2⟩] at q
            exact iteF q
/-! ### add_names -/
def spAddNames (A : Adr) (K : PySem.W.Frag) : Sp := fun vs H Q _ => ∃ (p dx d1 d2 a b : Addr) (st : Bool) (l1 l2 t c : List Nat), vs = [.ref p, .ref a, .ref b] ∧ H p = some (.ins A.Matter dx (fMt st d1 d2)) ∧ H d1 = some (.dK (dset l1)) ∧ H d2 = some (.dK (dset l2)) ∧ d1 ≠ d2 ∧
  SqL K H a (vints t) ∧ SqL K H b (vints c) ∧ l1.length + t.length ≤ 1000 ∧ l2.length + c.length ≤ 1000 ∧ Q .non (upd (upd H d1 (.dK (dset (t.foldl ins1 l1)))) d2 (.dK (dset (c.foldl ins1 l2))))
theorem len_insTake (t l : List Nat) (i : Nat) (h : l.length + t.length ≤ 1000) : (dset ((t.take i).foldl ins1 l)).length < sizeLine := by
  rw [dset_len]
  refine small1000 (Nat.le_trans (len_insAll _ _) ?_)
  have := List.length_take_le' i t
  omega
theorem insTake_succ {t l : List Nat} {i n : Nat} (h : t[i]? = some n) : (t.take (i + 1)).foldl ins1 l = ins1 ((t.take i).foldl ins1 l) n := by
  rw [take_succ h, List.foldl_append]
  rfl
theorem ok_add_names (T : Txt K mg A) (D : DefIn K mg "add_names" s_add_names ["matter", "things", "classes"]) : Callee P w K mg base "add_names" 1 ["matter", "things", "classes"] (spAddNames A K) := by
  refine Callee.of D sc_add_names (fun vs H Q E h => ?_) (fun f cdv Ar outer sh H vs Q E hr h => ?_)
  · obtain ⟨_, _, _, _, _, _, _, _, _, _, _, rfl, _⟩ := h
    rfl
  · obtain ⟨p, dx, d1, d2, a, b, st, l1, l2, t, c, rfl, hp, h1, h2, hd, ha, hb, n1, n2, q⟩ := h
    have np1 : p ≠ d1 := ne_of hp h1 (by intro z; cases z)
    have np2 : p ≠ d2 := ne_of hp h2 (by intro z; cases z)
    refine ⟨_, (pss_cons (ps_for PassesOwn.never rfl (pi_list (pv 1)) (pg_name (i := 3) sc_add_names.nd rfl (by first | exact Or.inl rfl | exact Or.inr rfl)) (pss_one (ps_dput (hu_of hr) (pe_fld (pv 0) rfl) (pv 3) pe_bl rfl)))
      (pss_one (ps_for PassesOwn.never rfl (pi_list (pv 2)) (pg_name (i := 4) sc_add_names.nd rfl (by first | exact Or.inl rfl | exact Or.inr rfl)) (pss_one (ps_dput (hu_of hr) (pe_fld (pv 0) rfl) (pv 4) pe_bl rfl))))), ?_⟩
    refine ⟨_, rfl, a, rfl, ⟨_, ha⟩, for_list (K := K) (a := a) (xs := vints t) (fun i σ H' => ∃ v : Option V, σ = [some (.ref p), some (.ref a), some (.ref b), v, none] ∧ H' = upd H d1 (.dK (dset ((t.take i).foldl ins1 l1))))
      ⟨none, rfl, (upd_id h1).symm⟩ (fun i σ H' _ ⟨_, _, e⟩ => by rw [e]; exact SqL.upd ha h1 (by intro l z; cases z) (by intro u l z; cases z)) ?_ ?_⟩
    · rintro i y σ H' hi ⟨v, rfl, rfl⟩
      obtain ⟨n, hn, rfl⟩ := vints_get hi
      refine ⟨_, rfl, _, _, dx, _, _, rfl, (by rw [upd_ne np1]; exact hp), T.cl_Matter, T.n_Matter_things, rfl, _, rfl, d1, _, rfl, DPut.k (k := Sum.inl n) upd_same (len_insTake t l1 i n1), ?_⟩
      refine ⟨_, rfl, ?_⟩
      rw [upd_upd, dset_put, insTake_succ hn]
      rfl
    · rintro σ H' ⟨v, rfl, rfl⟩
      rw [vints_len, List.take_length]
      refine ⟨_, rfl, b, rfl, ⟨_, SqL.upd hb h1 (by intro l z; cases z) (by intro u l z; cases z)⟩, for_list (K := K) (a := b) (xs := vints c) (fun i σ H' => ∃ u : Option V, σ = [some (.ref p), some (.ref a), some (.ref b), v, u] ∧ H' = upd (upd H d1 (.dK (dset (t.foldl ins1 l1)))) d2 (.dK (dset ((c.take i).foldl ins1 l2))))
        ⟨none, rfl, (upd_id (by rw [upd_ne hd.symm]; exact h2)).symm⟩ (fun i σ H' _ ⟨_, _, e⟩ => by rw [e]; exact SqL.upd (SqL.upd hb h1 (by intro l z; cases z) (by intro u l z; cases z)) (show _ = some _ from (by rw [upd_ne hd.symm]; exact h2)) (by intro l z; cases z) (by intro u l z; cases z)) ?_ ?_⟩
      · rintro i y σ H' hi ⟨u, rfl, rfl⟩
        obtain ⟨n, hn, rfl⟩ := vints_get hi
        refine ⟨_, rfl, _, _, dx, _, _, rfl, (by rw [upd_ne np2, upd_ne np1]; exact hp), T.cl_Matter, T.n_Matter_classes, rfl, _, rfl, d2, _, rfl, DPut.k (k := Sum.inl n) upd_same (len_insTake c l2 i n2), ?_⟩
        refine ⟨_, rfl, ?_⟩
        rw [upd_upd, dset_put, insTake_succ hn]
        rfl
      · rintro σ H' ⟨u, rfl, rfl⟩
        rw [vints_len, List.take_length]
        exact q
/-! ### make_matter -/
def spMatter (A : Adr) (K : PySem.W.Frag) : Sp := fun vs H Q _ => ∃ L s a b, ∃ (t c : List Nat), Rep A H L s ∧ KM.Wf s ∧ vs = [.ref (L.a .off), .ref a, .ref b] ∧ SqL K H a (vints t) ∧ SqL K H b (vints c) ∧ t.length ≤ 300 ∧ c.length ≤ 300 ∧ Aft A H L (actMatter t c s).1 (actMatter t c s).2.ret Q
theorem ok_make_matter (T : Txt K mg A) (D : DefIn K mg "make_matter" s_make_matter ["office", "things", "classes"]) (c_fault_of_names : Callee P w K mg base "fault_of_names" 3 ["office", "things", "classes"] (spNames A K))
    (m_Matter : Maker P w K mg base "Matter" A.Matter 1 ["self"] (spInitMatter A)) (c_add_names : Callee P w K mg base "add_names" 1 ["matter", "things", "classes"] (spAddNames A K)) : Callee P w K mg base "make_matter" 4 ["office", "things", "classes"] (spMatter A K) := by
  refine Callee.of D sc_make_matter (fun vs H Q E h => ?_) (fun f cdv Ar outer sh H vs Q E hr h => ?_)
  · obtain ⟨_, _, _, _, _, _, _, _, rfl, _⟩ := h
    rfl
  · obtain ⟨L, s, a, b, t, c, R, W, rfl, ha, hb, ht, hc, q⟩ := h
    obtain ⟨dx, ho⟩ := R.off
    unfold actMatter at q
    refine ⟨_, (pss_cons (ps_set (i := 3) sc_make_matter.nd rfl (by first | exact Or.inl rfl | exact Or.inr rfl) (pe_callC c_fault_of_names (hr.mono (by decide)) rfl (pa_cons (pv 0) (pa_cons (pv 1) (pa_cons (pv 2) pa_nil)))))
      (pss_cons (ps_if (pt_cmpR op_lt (pv 3) pe_int (nomark _)) (pss_one (ps_ret (pv 3))) pss_nil)
      (pss_cons (ps_if (pt_cmpR op_ge (pe_callB call_len_seq rfl T.b_len bt_len (pa_cons (pe_fld (pv 0) rfl) pa_nil)) (pe_globI rfl T.g_MOST_MATTERS) (nomark _)) (pss_one (ps_ret (pe_globI rfl T.g_FULL))) pss_nil)
      (pss_cons (ps_set (i := 4) sc_make_matter.nd rfl (by first | exact Or.inl rfl | exact Or.inr rfl) (pe_makeC0 m_Matter (hr.mono (by decide)) rfl))
      (pss_cons (ps_expr (pe_callC c_add_names (hr.mono (by decide)) rfl (pa_cons (pv 4) (pa_cons (pv 1) (pa_cons (pv 2) pa_nil)))))
      (pss_cons (ps_expr (pe_bm PySem.F.plainAttrs_list PySem.F.slot_list_append PySem.F.type_list_append mt_append (pe_fld (pv 0) rfl) (pa_cons (pv 4) pa_nil)))
      (pss_one (ps_ret (pe_op op_sub (pe_callB call_len_seq rfl T.b_len bt_len (pa_cons (pe_fld (pv 0) rfl) pa_nil)) pe_int))))))))), ?_⟩
    refine ⟨_, rfl, _, rfl, _, rfl, L, s, a, b, t, c, R, rfl, ha, hb, ht, hc, ?_⟩
    refine ⟨_, rfl, _, _, rfl, rfl, _, rfl, ?_⟩
    cases en : s.names t c with
    | some an =>
      rw [en] at q
      refine ite2 (fun c1 => ⟨_, rfl, q.id R rfl rfl⟩) (fun c1 => absurd (decide_eq_true (names_some en)) c1)
    | none =>
      rw [en] at q
      dsimp only at q
      obtain ⟨w1, w2, w3, w4, w5, w6⟩ := KM.names_none en
      refine iteF ⟨_, rfl, _, _, dx, _, _, rfl, ho, T.cl_Office, T.n_Office_matters, rfl, _, _, rfl, .inl (SqL.of R.ma), _, _, rfl, rfl, _, rfl, ?_⟩
      rw [refs_len]
      refine ite2 (fun c2 => ?_) (fun c2 => ?_)
      · rw [if_pos (show Keep.MATTERS ≤ s.matters.length by have := of_decide_eq_true c2; show 32 ≤ s.matters.length; omega)] at q
        exact q.id R rfl rfl
      have n2 : ¬ 32 ≤ s.matters.length := fun z => c2 (decide_eq_true (by omega))
      rw [if_neg (show ¬ Keep.MATTERS ≤ s.matters.length from n2)] at q
      intro p d np nd ne
      refine ⟨p, d, rfl, upd_same, fun H2 d1 d2 e1 e2 n1p n2p n12 g1 g2 gp k2 => ⟨rfl, ?_⟩⟩
      have S : Same H H2 := Same.made np nd k2
      have nn : ∀ x, (upd (upd H d (.own p)) p (.ins A.Matter d [])) x = none → x ≠ p → H x = none := fun x hx hp => by
        rw [upd_ne hp] at hx
        by_cases z : x = d
        · rw [z]; exact nd
        · rw [upd_ne z] at hx; exact hx
      have f1 : H d1 = none := nn d1 e1 n1p
      have f2 : H d2 = none := nn d2 e2 n2p
      refine ⟨_, rfl, _, rfl, _, rfl, p, d, d1, d2, a, b, true, [], [], t, c, rfl, gp, g1, g2, n12, S.seq ha, S.seq hb, (by show 0 + t.length ≤ 1000; omega), (by show 0 + c.length ≤ 1000; omega), ?_⟩
      have S3 : Same H (upd (upd H2 d1 (.dK (dset (t.foldl ins1 [])))) d2 (.dK (dset (c.foldl ins1 [])))) := sameNew (sameNew S f1) f2
      have R3 := R.same S3
      obtain ⟨dx3, ho3⟩ := R3.off
      refine ⟨_, rfl, _, _, dx3, _, _, rfl, ho3, T.cl_Office, T.n_Office_matters, rfl, .inl ⟨rfl, _, SqL.of R3.ma⟩, _, rfl, _, _, _, rfl, rfl, R3.ma, by rw [refs_len]; exact size256 (by omega), ?_⟩
      have R4 := R3.pushMatter (p := p) (q := d1) (r := d2) (dx := d) (u := ⟨t, c, true⟩) (l1 := t.foldl ins1 []) (l2 := c.foldl ins1 []) (R.own p np) (R.own d1 f1) (R.own d2 f2) n1p.symm n2p.symm n12 (by rw [upd_ne n2p.symm, upd_ne n1p.symm]; exact gp) (by rw [upd_ne n12]; exact upd_same) (perm_insNew w3) upd_same (perm_insNew w4)
      have F4 : Fr H L _ (((L.add (.m s.matters.length) p).add (.mt s.matters.length) d1).add (.mc s.matters.length) d2) := Fr.add f2 (Fr.add f1 (Fr.add np ((frSame S3).trans (R3.frAt (g := .ma) (o := .lst (((List.range s.matters.length).map fun i => V.ref (L.a (.m i))) ++ [V.ref p])) trivial))))
      obtain ⟨dx4, ho4⟩ := R4.off
      have ma4 := R4.ma
      have eo : (((L.add (.m s.matters.length) p).add (.mt s.matters.length) d1).add (.mc s.matters.length) d2).a .off = L.a .off := by rw [add_ne (by intro z; cases z), add_ne (by intro z; cases z), add_ne (by intro z; cases z)]
      have et : (((L.add (.m s.matters.length) p).add (.mt s.matters.length) d1).add (.mc s.matters.length) d2).a .ma = L.a .ma := by rw [add_ne (by intro z; cases z), add_ne (by intro z; cases z), add_ne (by intro z; cases z)]
      rw [eo] at ho4
      rw [et] at ma4
      rw [et] at ho4
      refine ⟨_, rfl, _, _, dx4, _, _, rfl, ho4, T.cl_Office, T.n_Office_matters, rfl, _, _, rfl, .inl (SqL.of ma4), _, _, rfl, rfl, ?_⟩
      rw [refs_len]
      have := q _ _ R4 F4 eo
      show Q (.int ((((s.matters ++ [_]).length : Nat) : Int) - 1)) _
      rw [len_snoc]
      exact this
/-! ### fault_of_matter -/
def spMatterFault (A : Adr) : Sp := fun vs H Q _ => ∃ L s, ∃ m : Nat, Rep A H L s ∧ vs = [.ref (L.a .off), .int m] ∧ Q (.int (matterFault s m)) H
theorem ok_fault_of_matter (T : Txt K mg A) (D : DefIn K mg "fault_of_matter" s_fault_of_matter ["office", "number"]) : Callee P w K mg base "fault_of_matter" 1 ["office", "number"] (spMatterFault A) := by
  refine Callee.of D sc_fault_of_matter (fun vs H Q E h => ?_) (fun f cdv Ar outer sh H vs Q E hr h => ?_)
  · obtain ⟨_, _, _, _, rfl, _⟩ := h
    rfl
  · obtain ⟨L, s, m, R, rfl, q⟩ := h
    obtain ⟨dx, ho⟩ := R.off
    unfold matterFault at q
    refine ⟨_, (pss_cons (ps_if (pt_cmpR op_ge (pv 1) (pe_callB call_len_seq rfl T.b_len bt_len (pa_cons (pe_fld (pv 0) rfl) pa_nil)) (nomark _)) (pss_one (ps_ret (pe_globI rfl T.g_NOT_THERE))) pss_nil)
      (pss_cons (ps_if (pt_not (pt_val (pe_fld (pe_ix ix_list (pe_fld (pv 0) rfl) (pv 1) (fun _ _ => rfl)) rfl))) (pss_one (ps_ret (pe_globI rfl T.g_RELEASED))) pss_nil)
      (pss_one (ps_ret pe_int)))), ?_⟩
    refine ⟨_, rfl, _, rfl, _, _, dx, _, _, rfl, ho, T.cl_Office, T.n_Office_matters, rfl, _, _, rfl, .inl (SqL.of R.ma), _, _, rfl, rfl, _, rfl, ?_⟩
    rw [refs_len]
    refine ite2 (fun c1 => ?_) (fun c1 => ?_)
    · rw [List.getElem?_eq_none (by have := of_decide_eq_true c1; omega)] at q
      exact q
    have hlt : m < s.matters.length := by
      rcases Nat.lt_or_ge m s.matters.length with z | z
      · exact z
      · exact absurd (decide_eq_true (by omega)) c1
    obtain ⟨x, ex⟩ := get_some hlt
    obtain ⟨dm, hm⟩ := R.m ex
    rw [ex] at q
    dsimp only at q
    refine ⟨_, rfl, _, _, dx, _, _, rfl, ho, T.cl_Office, T.n_Office_matters, rfl, _, rfl, _, _, _, _, rfl, rfl, SqL.of R.ma, atI_nat (refs_get hlt), _, _, dm, _, _, rfl, hm, T.cl_Matter, T.n_Matter_stands, rfl, _, rfl, ?_⟩
    cases hs : x.stands with
    | false =>
      rw [if_pos hs] at q
      exact iteT q
    | true =>
      rw [if_neg (by rw [hs]; exact fun z => Bool.noConfusion z)] at q
      exact iteF q
/-! ### name_more, release_matter -/
def spMore (A : Adr) (K : PySem.W.Frag) : Sp := fun vs H Q _ => ∃ L s a b, ∃ (m : Nat) (t c : List Nat), Rep A H L s ∧ KM.Wf s ∧ vs = [.ref (L.a .off), .int m, .ref a, .ref b] ∧ SqL K H a (vints t) ∧ SqL K H b (vints c) ∧ t.length ≤ 300 ∧ c.length ≤ 300 ∧ Aft A H L (actMore m t c s).1 (actMore m t c s).2.ret Q
theorem nodup_small {l : List Nat} {n k : Nat} (h : l.Nodup) (hl : ∀ x ∈ l, x < n) (hn : n ≤ k) : l.length ≤ k := Nat.le_trans (KM.nodup_le n l h hl) hn
theorem ok_name_more (T : Txt K mg A) (D : DefIn K mg "name_more" s_name_more ["office", "number", "things", "classes"]) (c_fault_of_names : Callee P w K mg base "fault_of_names" 3 ["office", "things", "classes"] (spNames A K))
    (c_fault_of_matter : Callee P w K mg base "fault_of_matter" 1 ["office", "number"] (spMatterFault A)) (c_add_names : Callee P w K mg base "add_names" 1 ["matter", "things", "classes"] (spAddNames A K)) : Callee P w K mg base "name_more" 4 ["office", "number", "things", "classes"] (spMore A K) := by
  refine Callee.of D sc_name_more (fun vs H Q E h => ?_) (fun f cdv Ar outer sh H vs Q E hr h => ?_)
  · obtain ⟨_, _, _, _, _, _, _, _, _, rfl, _⟩ := h
    rfl
  · obtain ⟨L, s, a, b, m, t, c, R, W, rfl, ha, hb, ht, hc, q⟩ := h
    obtain ⟨dx, ho⟩ := R.off
    unfold actMore at q
    refine ⟨_, (pss_cons (ps_set (i := 4) sc_name_more.nd rfl (by first | exact Or.inl rfl | exact Or.inr rfl) (pe_callC c_fault_of_names (hr.mono (by decide)) rfl (pa_cons (pv 0) (pa_cons (pv 2) (pa_cons (pv 3) pa_nil)))))
      (pss_cons (ps_if (pt_cmpR op_eq (pv 4) pe_int (nomark _)) (pss_one (ps_set (i := 4) sc_name_more.nd rfl (by first | exact Or.inl rfl | exact Or.inr rfl) (pe_callC c_fault_of_matter (hr.mono (by decide)) rfl (pa_cons (pv 0) (pa_cons (pv 1) pa_nil))))) pss_nil)
      (pss_cons (ps_if (pt_cmpR op_eq (pv 4) pe_int (nomark _)) (pss_one (ps_expr (pe_callC c_add_names (hr.mono (by decide)) rfl (pa_cons (pe_ix ix_list (pe_fld (pv 0) rfl) (pv 1) (fun _ _ => rfl)) (pa_cons (pv 2) (pa_cons (pv 3) pa_nil)))))) pss_nil)
      (pss_one (ps_ret (pv 4)))))), ?_⟩
    refine ⟨_, rfl, _, rfl, _, rfl, L, s, a, b, t, c, R, rfl, ha, hb, ht, hc, ?_⟩
    refine ⟨_, rfl, rfl, _, rfl, ?_⟩
    cases en : s.names t c with
    | some an =>
      rw [en] at q
      have neg := names_some en
      have nz : ¬ decide (V.int (faultOf (some an)) = V.int 0) = true := fun z => by
        have := of_decide_eq_true z
        injection this with this
        have e : an.ret = 0 := this
        omega
      refine ite2 (fun c1 => absurd c1 nz) (fun c1 => ⟨_, rfl, rfl, _, rfl, ite2 (fun c1 => absurd c1 nz) (fun c1 => ⟨_, rfl, q.id R rfl rfl⟩)⟩)
    | none =>
      rw [en] at q
      dsimp only at q
      obtain ⟨w1, w2, w3, w4, w5, w6⟩ := KM.names_none en
      refine iteT ⟨_, rfl, _, rfl, L, s, m, R, rfl, ?_⟩
      cases ex : s.matters[m]? with
      | none =>
        rw [ex] at q
        rw [show matterFault s m = -4 by unfold matterFault; rw [ex]]
        exact ⟨_, rfl, rfl, _, rfl, iteF ⟨_, rfl, q.id R rfl rfl⟩⟩
      | some x =>
        rw [ex] at q
        dsimp only at q
        cases hs : x.stands with
        | false =>
          rw [if_pos hs] at q
          rw [show matterFault s m = -3 by unfold matterFault; rw [ex]; exact if_pos hs]
          exact ⟨_, rfl, rfl, _, rfl, iteF ⟨_, rfl, q.id R rfl rfl⟩⟩
        | true =>
          rw [if_neg (by rw [hs]; exact fun z => Bool.noConfusion z)] at q
          rw [show matterFault s m = 0 by unfold matterFault; rw [ex]; exact if_neg (by rw [hs]; exact fun z => Bool.noConfusion z)]
          refine ⟨_, rfl, rfl, _, rfl, ?_⟩
          have hlt := (List.getElem?_eq_some_iff.mp ex).1
          obtain ⟨dm, hm⟩ := R.m ex
          obtain ⟨l1, p1, h1⟩ := R.mt ex
          obtain ⟨l2, p2, h2⟩ := R.mc ex
          obtain ⟨o1, o2, o3, o4⟩ := W.mt x (List.mem_of_getElem? ex)
          have b1 : l1.length ≤ 256 := by rw [p1.length_eq]; exact nodup_small o1 o3 W.nth
          have b2 : l2.length ≤ 256 := by rw [p2.length_eq]; exact nodup_small o2 o4 (Nat.le_trans W.ncl (by decide))
          refine iteT ⟨_, rfl, _, _, dx, _, _, rfl, ho, T.cl_Office, T.n_Office_matters, rfl, _, rfl, _, _, _, _, rfl, rfl, SqL.of R.ma, atI_nat (refs_get hlt), _, rfl, _, rfl, ?_⟩
          refine ⟨_, dm, L.a (.mt m), L.a (.mc m), a, b, x.stands, l1, l2, t, c, rfl, hm, h1, h2, R.ne (g := .mt m) (g' := .mc m) hlt hlt (by intro z; cases z), ha, hb, by omega, by omega, ?_⟩
          have R1 := R.setMt (i := m) (x := x) (l := t.foldl ins1 l1) (l' := Keep.joined x.things t) ex (perm_insAll p1 o1 w3)
          have ex1 : ({ s with matters := s.matters.set m { x with things := Keep.joined x.things t } } : Keep.State).matters[m]? = some { x with things := Keep.joined x.things t } := by
            show (s.matters.set m _)[m]? = _
            rw [List.getElem?_set, if_pos rfl, if_pos hlt]
          have R2 := R1.setMc (i := m) (x := { x with things := Keep.joined x.things t }) (l := c.foldl ins1 l2) (l' := Keep.joined x.classes c) ex1 (perm_insAll p2 o2 w4)
          have lv : live { s with matters := s.matters.set m { x with things := Keep.joined x.things t } } (.mc m) := live_setM.mpr hlt
          have F2 := (R.frAt (g := .mt m) (o := .dK (dset (t.foldl ins1 l1))) hlt).trans (R1.frAt (g := .mc m) (o := .dK (dset (c.foldl ins1 l2))) lv)
          have es : ({ s with matters := (s.matters.set m { x with things := Keep.joined x.things t }).set m { x with things := Keep.joined x.things t, classes := Keep.joined x.classes c } } : Keep.State) = { s with matters := s.matters.set m { x with things := Keep.joined x.things t, classes := Keep.joined x.classes c } } := by
            rw [List.set_set]
          have R2' : Rep A (upd (upd H (L.a (.mt m)) (.dK (dset (t.foldl ins1 l1)))) (L.a (.mc m)) (.dK (dset (c.foldl ins1 l2)))) L { s with matters := s.matters.set m { x with things := Keep.joined x.things t, classes := Keep.joined x.classes c } } := by
            rw [← es]
            exact R2
          exact ⟨_, rfl, q _ L R2' F2 rfl⟩
def spRelease (A : Adr) : Sp := fun vs H Q _ => ∃ L s, ∃ m : Nat, Rep A H L s ∧ KM.Wf s ∧ vs = [.ref (L.a .off), .int m] ∧ Aft A H L (actRelease m s).1 (actRelease m s).2.ret Q
theorem ok_release_matter (T : Txt K mg A) (D : DefIn K mg "release_matter" s_release_matter ["office", "number"]) (c_fault_of_matter : Callee P w K mg base "fault_of_matter" 1 ["office", "number"] (spMatterFault A)) : Callee P w K mg base "release_matter" 2 ["office", "number"] (spRelease A) := by
  refine Callee.of D sc_release_matter (fun vs H Q E h => ?_) (fun f cdv Ar outer sh H vs Q E hr h => ?_)
  · obtain ⟨_, _, _, _, _, rfl, _⟩ := h
    rfl
  · obtain ⟨L, s, m, R, W, rfl, q⟩ := h
    obtain ⟨dx, ho⟩ := R.off
    unfold actRelease at q
    refine ⟨_, (pss_cons (ps_set (i := 2) sc_release_matter.nd rfl (by first | exact Or.inl rfl | exact Or.inr rfl) (pe_callC c_fault_of_matter (hr.mono (by decide)) rfl (pa_cons (pv 0) (pa_cons (pv 1) pa_nil))))
      (pss_cons (ps_if (pt_cmpR op_eq (pv 2) pe_int (nomark _)) (pss_cons (ps_set (i := 3) sc_release_matter.nd rfl (by first | exact Or.inl rfl | exact Or.inr rfl) (pe_ix ix_list (pe_fld (pv 0) rfl) (pv 1) (fun _ _ => rfl)))
      (pss_one (ps_fld (pv 3) pe_bl rfl))) pss_nil)
      (pss_one (ps_ret (pv 2))))), ?_⟩
    refine ⟨_, rfl, _, rfl, L, s, m, R, rfl, ?_⟩
    cases ex : s.matters[m]? with
    | none =>
      rw [ex] at q
      rw [show matterFault s m = -4 by unfold matterFault; rw [ex]]
      exact ⟨_, rfl, rfl, _, rfl, iteF ⟨_, rfl, q.id R rfl rfl⟩⟩
    | some x =>
      rw [ex] at q
      dsimp only at q
      cases hs : x.stands with
      | false =>
        rw [if_pos hs] at q
        rw [show matterFault s m = -3 by unfold matterFault; rw [ex]; exact if_pos hs]
        exact ⟨_, rfl, rfl, _, rfl, iteF ⟨_, rfl, q.id R rfl rfl⟩⟩
      | true =>
        rw [if_neg (by rw [hs]; exact fun z => Bool.noConfusion z)] at q
        rw [show matterFault s m = 0 by unfold matterFault; rw [ex]; exact if_neg (by rw [hs]; exact fun z => Bool.noConfusion z)]
        refine ⟨_, rfl, rfl, _, rfl, ?_⟩
        have hlt := (List.getElem?_eq_some_iff.mp ex).1
        obtain ⟨dm, hm⟩ := R.m ex
        refine iteT ⟨_, rfl, _, _, dx, _, _, rfl, ho, T.cl_Office, T.n_Office_matters, rfl, _, rfl, _, _, _, _, rfl, rfl, SqL.of R.ma, atI_nat (refs_get hlt), ?_⟩
        refine ⟨_, rfl, _, _, dm, _, rfl, hm, T.cl_Matter, T.n_Matter_stands, (by show 3 < 1000; decide), ?_⟩
        exact ⟨_, rfl, q _ L (R.setMatter (i := m) (x := x) (u := { x with stands := false }) ex rfl rfl) (R.frAt (g := .m m) hlt) rfl⟩
end
end KB

set_option Elab.async false
set_option linter.all false
set_option autoImplicit false
set_option maxRecDepth 100000
set_option maxHeartbeats 2000000
namespace KB
open PySem PySem.Spec PyProof.Rows L2
/-! ### slices, by places -/
theorem cut_nat {xs : List V} {i j : Nat} (h : i ≤ j) (hj : j ≤ xs.length) : cutV xs (some (i : Int)) (some (j : Int)) = (xs.drop i).take (j - i) := by
  unfold cutV
  rw [HT.sIx_nat, HT.sIx_nat, Nat.min_eq_left (Nat.le_trans h hj), Nat.min_eq_left hj]
def vI (l : List Int) : List V := l.map V.int
theorem vI_len (l : List Int) : (vI l).length = l.length := List.length_map _
theorem vI_get {l : List Int} {i : Nat} {z : Int} (h : l[i]? = some z) : (vI l)[i]? = some (V.int z) := by
  unfold vI
  rw [List.getElem?_map, h]
  rfl
theorem vI_cut (l : List Int) (i n : Nat) : ((vI l).drop i).take n = vI ((l.drop i).take n) := by
  unfold vI
  rw [← List.map_drop, ← List.map_take]
/-- lists at addresses -/
structure Rows (H : Hp) (qs : List Addr) (xs : List (List Int)) : Prop where
  len : qs.length = xs.length
  at_ : ∀ (i : Nat) (q : Addr) (x : List Int), qs[i]? = some q → xs[i]? = some x → H q = some (.lst (vI x))
theorem Rows.nil (H : Hp) : Rows H [] [] := ⟨rfl, fun i q x h => by simp at h⟩
theorem Rows.same {H H' : Hp} {qs : List Addr} {xs : List (List Int)} (r : Rows H qs xs) (S : ∀ b o, H b = some o → b ∈ qs → H' b = some o) : Rows H' qs xs := ⟨r.len, fun i q x h1 h2 => S q _ (r.at_ i q x h1 h2) (List.mem_of_getElem? h1)⟩
theorem Rows.snoc {H : Hp} {qs : List Addr} {xs : List (List Int)} {q : Addr} {x : List Int} (r : Rows H qs xs) (h : H q = some (.lst (vI x))) : Rows H (qs ++ [q]) (xs ++ [x]) := by
  refine ⟨by rw [List.length_append, List.length_append, r.len]; rfl, fun i q' x' h1 h2 => ?_⟩
  rcases get_snoc h1 with ⟨e1, rfl⟩ | ⟨l1, e1⟩
  · rcases get_snoc h2 with ⟨e2, rfl⟩ | ⟨l2, e2⟩
    · exact h
    · have := r.len; omega
  · rcases get_snoc h2 with ⟨e2, rfl⟩ | ⟨l2, e2⟩
    · have := r.len; omega
    · exact r.at_ i q' x' e1 e2
section
variable {P : Program} {w : World} {K : PySem.W.Frag} {mg : Str → Option Value} {base : Heap} {A : Adr}
/-! ### read_rows -/
def spRows (K : PySem.W.Frag) : Sp := fun vs H Q _ => ∃ (a : Addr) (ns : List Int) (at_ k : Nat) (xs : List (List Int)) (t : List Int), vs = [.ref a, .int at_, .int k] ∧ SqL K H a (vI ns) ∧ PyFlat.rows k (ns.drop at_) = some (xs, t) ∧ k ≤ 2 ∧
  ∀ (H' : Hp) (p : Addr) (qs : List Addr), Same H H' → H p = none → (∀ q ∈ qs, H q = none) → H' p = some (.lst (qs.map V.ref)) → Rows H' qs xs → Q (.ref p) H'
theorem ok_read_rows (T : Txt K mg A) (D : DefIn K mg "read_rows" s_read_rows ["calls", "at", "many"]) : Callee P w K mg base "read_rows" 1 ["calls", "at", "many"] (spRows K) := by
  refine Callee.of D sc_read_rows (fun vs H Q E h => ?_) (fun f cdv Ar outer sh H vs Q E hr h => ?_)
  · obtain ⟨_, _, _, _, _, _, rfl, _⟩ := h
    rfl
  · obtain ⟨a, ns, at0, k, xs, t, rfl, hS, hrow, hk, q⟩ := h
    refine ⟨_, (pss_cons (ps_set (i := 3) sc_read_rows.nd rfl (by first | exact Or.inl rfl | exact Or.inr rfl) (pe_lst pa_nil))
      (pss_cons (ps_while PassesOwn.never (pt_cmpR op_lt (pe_callB call_len_seq rfl T.b_len bt_len (pa_cons (pv 3) pa_nil)) (pv 2) (nomark _)) (pss_cons (ps_set (i := 4) sc_read_rows.nd rfl (by first | exact Or.inl rfl | exact Or.inr rfl) (pe_op op_add (pv 1) pe_int))
      (pss_cons (ps_set (i := 1) sc_read_rows.nd rfl (by first | exact Or.inl rfl | exact Or.inr rfl) (pe_op op_add (pv 4) (pe_ix ix_list (pv 0) (pv 1) (fun _ _ => rfl))))
      (pss_one (ps_expr (pe_bm PySem.F.plainAttrs_list PySem.F.slot_list_append PySem.F.type_list_append mt_append (pv 3) (pa_cons (pe_slice sl_list (pv 0) (po_some (pv 4)) (po_some (pv 1))) pa_nil)))))))
      (pss_one (ps_ret (pv 3))))), ?_⟩
    refine ⟨Nat.zero_le _, fun p hp => ?_⟩
    refine while_by (fun σ H' => ∃ (i : Nat) (u : Option V) (j : Nat) (qs : List Addr) (xs1 xs2 : List (List Int)), σ = [some (.ref a), some (.int i), some (.int k), some (.ref p), u] ∧ Same H H' ∧ (∀ q ∈ qs, H q = none) ∧ H' p = some (.lst (qs.map V.ref)) ∧ Rows H' qs xs1 ∧ xs = xs1 ++ xs2 ∧
        p ∉ qs ∧ j + xs1.length = k ∧ PyFlat.rows j (ns.drop i) = some (xs2, t)) (fun _ H' => match H' p with | some (.lst l) => k - l.length | _ => 0)
      ⟨at0, none, k, [], [], xs, rfl, sameNew (Same.refl H) hp, fun q h => (by simp at h), upd_same, Rows.nil _, rfl, by simp, by simp, hrow⟩ ?_ ?_
    · rintro σ H' ⟨i, u, j, qs, xs1, xs2, rfl, S, hq, h1, r, rfl, hpq, hj, hr2⟩
      have ln := r.len
      have lq : (qs.map V.ref).length = xs1.length := by rw [List.length_map, ln]
      refine ⟨_, rfl, _, _, rfl, .inl (SqL.of h1), _, rfl, _, _, rfl, rfl, _, rfl, ?_⟩
      rw [lq]
      refine ite2 (fun c => ?_) (fun c => ?_)
      · have c' : xs1.length < k := by have := of_decide_eq_true c; omega
        obtain ⟨j, rfl⟩ : ∃ j', j = j' + 1 := ⟨j - 1, by omega⟩
        obtain ⟨x, s2, ys, e1, e2, rfl⟩ := KP.rows_succ hr2
        obtain ⟨n, r', e3, hn, rfl, rfl⟩ := KP.row_some e1
        have hi : i < ns.length := by
          rcases Nat.lt_or_ge i ns.length with z | z
          · exact z
          · rw [List.drop_eq_nil_of_le z] at e3; cases e3
        have e4 : ns.drop i = ns[i] :: ns.drop (i + 1) := List.drop_eq_getElem_cons hi
        rw [e4] at e3
        injection e3 with e5 e6
        subst e6
        rw [List.length_drop] at hn
        have gi : ns[i]? = some (n : Int) := by rw [List.getElem?_eq_getElem hi, e5]
        rw [List.drop_drop] at e2
        have hS' := Same.seq S hS
        -- start = at + 1; at = start + calls[at]
        refine ⟨_, rfl, _, _, rfl, rfl, ?_⟩
        refine ⟨_, rfl, _, rfl, _, rfl, _, _, _, _, rfl, rfl, hS', atI_nat (vI_get gi), _, _, rfl, rfl, ?_⟩
        -- rows.append(calls[start:at])
        refine ⟨_, rfl, .inl ⟨rfl, _, SqL.of h1⟩, _, rfl, _, rfl, _, rfl, _, rfl, _, rfl, a, _, rfl, hS', ?_⟩
        intro q0 hq0
        have nq : p ≠ q0 := ne_of_none h1 hq0
        have fq : H q0 = none := S.free hq0
        have ec : cutV (vI ns) (some (((i : Nat) : Int) + 1)) (some (((i : Nat) : Int) + 1 + (n : Int))) = vI ((ns.drop (i + 1)).take n) := by
          have e7 : (((i : Nat) : Int) + 1) = ((i + 1 : Nat) : Int) := by omega
          have e8 : (((i : Nat) : Int) + 1 + (n : Int)) = ((i + 1 + n : Nat) : Int) := by omega
          rw [e8, e7, cut_nat (by omega) (by rw [vI_len]; omega), vI_cut]
          congr 3
          omega
        have h1' : upd H' q0 (.lst (cutV (vI ns) (some (((i : Nat) : Int) + 1)) (some (((i : Nat) : Int) + 1 + (n : Int))))) p = some (.lst (qs.map V.ref)) := by rw [upd_ne nq]; exact h1
        refine ⟨_, _, _, rfl, rfl, h1', (by rw [lq]; exact size256 (by omega)), ?_⟩
        refine ⟨⟨i + 1 + n, some (V.int (((i : Nat) : Int) + 1)), j, qs ++ [q0], xs1 ++ [(ns.drop (i + 1)).take n], ys, ?_, sameNew (sameNew S fq) hp, ?_, ?_, ?_, by rw [List.append_assoc]; rfl, ?_, by rw [List.length_append]; show j + (xs1.length + 1) = k; omega, e2⟩, ?_⟩
        · show [some (V.ref a), some (V.int (((i : Nat) : Int) + 1 + (n : Int))), some (V.int k), some (V.ref p), some (V.int (((i : Nat) : Int) + 1))] = _
          rw [show (((i : Nat) : Int) + 1 + (n : Int)) = ((i + 1 + n : Nat) : Int) by omega]
        · intro b hb
          rcases List.mem_append.mp hb with z | z
          · exact hq b z
          · rw [List.mem_singleton.mp z]; exact fq
        · rw [upd_same, List.map_append]
          rfl
        · refine Rows.snoc (r.same fun b o e hb => ?_) ?_
          · rw [upd_ne (fun z => hpq (by rw [← z]; exact hb)), upd_ne (ne_of_none e hq0)]
            exact e
          · rw [upd_ne nq.symm, upd_same, ec]
        · intro z
          rcases List.mem_append.mp z with z | z
          · exact hpq z
          · exact nq (List.mem_singleton.mp z)
        · show (match upd _ p (.lst (qs.map V.ref ++ [V.ref q0])) p with | some (.lst l) => k - l.length | _ => 0) < (match H' p with | some (.lst l) => k - l.length | _ => 0)
          rw [upd_same, h1]
          show k - (qs.map V.ref ++ [V.ref q0]).length < k - (qs.map V.ref).length
          rw [List.length_append, lq]
          show k - (xs1.length + 1) < k - xs1.length
          omega
      · have c' : ¬ xs1.length < k := fun z => c (decide_eq_true (by omega))
        have j0 : j = 0 := by omega
        subst j0
        cases hr2
        rw [List.append_nil] at q
        exact ⟨_, rfl, q H' p qs S hp hq h1 r⟩
    · rintro σ H Q Q' m ⟨v, hv, p, ys, hp, hsq, v2, hv2, i, j, hi, hj, k, hk, hq⟩
      exact ⟨v, hv, p, ys, hp, hsq, v2, hv2, i, j, hi, hj, k, hk, m _ _ hq⟩
/-! ### written -/
def spWritten : Sp := fun vs H Q _ => ∃ (a : Addr) (z : Int) (l : List V), vs = [.int z, .ref a] ∧ H a = some (.lst l) ∧ l.length ≤ 1000 ∧ ∀ (H' : Hp) (p : Addr), Same H H' → H p = none → H' p = some (.lst ([V.int (3 + l.length), V.int z, V.int 0, V.int l.length] ++ l)) → Q (.ref p) H'
theorem ok_written (T : Txt K mg A) (D : DefIn K mg "written" s_written ["number", "others"]) : Callee P w K mg base "written" 1 ["number", "others"] spWritten := by
  refine Callee.of D sc_written (fun vs H Q E h => ?_) (fun f cdv Ar outer sh H vs Q E hr h => ?_)
  · obtain ⟨_, _, _, rfl, _⟩ := h
    rfl
  · obtain ⟨a, z, l, rfl, hl, hn, q⟩ := h
    refine ⟨_, (pss_one (ps_ret (pe_op op_cat (pe_lst (pa_cons (pe_op op_add pe_int (pe_callB call_len_seq rfl T.b_len bt_len (pa_cons (pv 1) pa_nil))) (pa_cons (pv 0) (pa_cons pe_int (pa_cons (pe_callB call_len_seq rfl T.b_len bt_len (pa_cons (pv 1) pa_nil)) pa_nil))))) (pv 1)))), ?_⟩
    refine ⟨_, rfl, a, _, rfl, .inl (SqL.of hl), _, _, rfl, rfl, _, rfl, _, rfl, a, _, rfl, .inl (SqL.of hl), (by show 4 ≤ sizeLine; decide), fun p hp => ?_⟩
    have np : a ≠ p := ne_of_none hl hp
    refine ⟨_, rfl, p, a, _, _, rfl, rfl, upd_same, (by rw [upd_ne np]; exact hl), (by show 4 + l.length ≤ sizeLine; exact Nat.le_of_lt (Nat.lt_of_le_of_lt (Nat.add_le_add_left hn 4) (by decide))), fun r hr => ?_⟩
    have rp : r ≠ p := fun e => by rw [e, upd_same] at hr; cases hr
    rw [upd_ne rp] at hr
    exact q _ r (sameNew (sameNew (Same.refl H) hp) hr) hr upd_same
end
end KB

set_option Elab.async false
set_option linter.all false
set_option autoImplicit false
set_option maxRecDepth 100000
set_option maxHeartbeats 2000000
namespace KB
open PySem PySem.Spec PyProof.Rows L2
/-! ### the lambda of moments_of_going -/
abbrev lamP : Pos := ⟨42, 30, 42, 60⟩
abbrev lamQ : Str := (("moments_of_going" : Str) ++ ".<locals>.") ++ "<lambda>"
abbrev Tab (pt : Addr) (H : Hp) : Prop := KL.TabOk H pt lamP lamQ
theorem Tab.keep {pt : Addr} {H H' : Hp} (t : Tab pt H) (k : ∀ b o, H b = some o → (∀ kvs, o ≠ .dK kvs) → H' b = some o) : Tab pt H' := by
  obtain ⟨ps, h1, h2, h3⟩ := t
  refine ⟨ps, k _ _ h1 (fun _ z => by cases z), h2, ?_⟩
  rcases h3 with h3 | ⟨c, h3, h4⟩
  · exact .inl h3
  · exact .inr ⟨c, h3, k _ _ h4 (fun _ z => by cases z)⟩
theorem Tab.same {pt : Addr} {H H' : Hp} (t : Tab pt H) (S : Same H H') : Tab pt H' := t.keep fun b o e _ => S b o e
theorem Tab.sameX {pt m : Addr} {H H' : Hp} {kvs : List (Key × V)} (t : Tab pt H) (hm : H m = some (.dK kvs)) (S : SameX m H H') : Tab pt H' := t.keep fun b o e n => S b o (by rintro rfl; rw [hm] at e; cases e; exact n _ rfl) e
theorem Tab.new {pt p : Addr} {H : Hp} {o : HO} (t : Tab pt H) (h : H p = none) : Tab pt (upd H p o) := t.same (sameNew (Same.refl H) h)
theorem Tab.some {pt : Addr} {H : Hp} (t : Tab pt H) : ∃ ps, H pt = some (.tbl ps) := let ⟨ps, h, _⟩ := t; ⟨ps, h⟩
/-- a def of the text whose code has a table -/
structure DefInC (K : PySem.W.Frag) (mg : Str → Option Value) (x : Str) (st : Stmt) (ps : List Str) (pt : Addr) : Prop where
  ex : ∃ (f : Addr) (oc : Value) (od : Option Addr) (kV doc pm : Value) (an : Option Addr) (c0 : Addr) (ct : Value) (osl : Array (Option Value)),
    K.lookup f = some ⟨oc, od, .func (PySem.W.fnOf x x (defArgs st) (defBody st) (defScope st) .none kV doc pm an (.ref c0) ct), osl⟩ ∧ PySem.W.codeIn K (.ref c0) x = true ∧ PySem.W.keepIn K (.ref f) = true ∧ mg x = some (.ref f) ∧
    Binds K (PySem.W.fnOf x x (defArgs st) (defBody st) (defScope st) .none kV doc pm an (.ref c0) ct) ps [] ∧ PySem.W.codeHdIn K c0 pt = true
def oV : Option Nat → V
  | none => .non
  | some d => .int d
/-- marks with their moments -/
def mo (l : List (Nat × Option Nat)) : List (Nat × V) := l.map fun q => (q.1, oV q.2)
theorem mo_keys (l : List (Nat × Option Nat)) : (mo l).map (·.1) = l.map (·.1) := by unfold mo; rw [List.map_map]; rfl
theorem mo_append (a b : List (Nat × Option Nat)) : mo (a ++ b) = mo a ++ mo b := List.map_append
theorem mo_new (l : List Nat) (o : Option Nat) : mo (l.map fun n => (n, o)) = l.map fun n => (n, oV o) := by unfold mo; rw [List.map_map]; rfl
theorem keys_mapO (l : List Nat) (o : Option Nat) : (l.map fun n => (n, o)).map (·.1) = l := by rw [List.map_map]; exact List.map_id' l
def dueOf (s : Keep.State) (x : Nat) : Nat := ((s.things[x]?).map Keep.Thing.due).getD 0
theorem dueOf_eq {s : Keep.State} {x : Nat} {t : Keep.Thing} (e : s.things[x]? = some t) : dueOf s x = t.due := by unfold dueOf; rw [e]; rfl
theorem vints_map (l : List Nat) : vints l = (l.map fun (n : Nat) => (n : Int)).map V.int := by unfold vints; rw [List.map_map]; rfl
theorem perm_nat {ns : List Int} {l : List Nat} (p : ns.Perm (l.map fun (n : Nat) => (n : Int))) : ∃ ds : List Nat, ns = ds.map (fun (n : Nat) => (n : Int)) ∧ ds.Perm l := by
  refine ⟨ns.map Int.toNat, ?_, ?_⟩
  · rw [List.map_map]
    have : ∀ n ∈ ns, ((fun n : Nat => (n : Int)) ∘ Int.toNat) n = n := fun n hn => by
      obtain ⟨m, _, rfl⟩ := List.mem_map.mp (p.mem_iff.mp hn)
      rfl
    exact ((List.map_congr_left this).trans (List.map_id' ns)).symm
  · have := p.map Int.toNat
    rw [List.map_map] at this
    exact this.trans (by rw [show (Int.toNat ∘ fun n : Nat => (n : Int)) = id from rfl, List.map_id])
section
variable {P : Program} {w : World} {K : PySem.W.Frag} {mg : Str → Option Value} {base : Heap} {A : Adr}
theorem Callee.ofC {x : Str} {st : Stmt} {N ps : List Str} {k : Nat} {sp : Sp} {pt : Addr} (D : DefInC K mg x st ps pt) (B : KL.BMain mg base) (S : FnScope N ps (defScope st)) (len : ∀ vs H Q E, sp vs H Q E → vs.length = ps.length)
    (hbody : ∀ (f : Addr) (cdv : Value), KL.LamC K mg base cdv pt → ∀ (A : Around) (outer : List Env) (s : Shared) (H : Hp) (vs : List V) (Q : VK) (E : XK), Room k (A.deeper (envOfC x (defScope st) s.heap.objs.size f cdv)) → sp vs H Q E →
      ∃ t, PSs (cxOf CX0 P w K mg base N x (defScope st) f cdv A outer s H E).nox (defBody st) t ∧ t { nx := fun _ H' => Q .non H', rt := Q } (start N vs) H) : Callee P w K mg base x (k + 1) ps sp := by
  obtain ⟨f, oc, od, kV, doc, pm, an, c0, ct, osl, lk, hcd, kp, m, b, hd⟩ := D.ex
  refine ⟨f, _, fn_of lk hcd S len fun A outer s H vs Q E hr hsp => ?_, m, kp, b⟩
  obtain ⟨t, h, q⟩ := hbody f (.ref c0) ⟨⟨c0, rfl, hd⟩, B⟩ A outer s H vs Q E hr hsp
  exact ⟨t, h.nox, q⟩
/-! ### moments_of_going -/
def spMoments (A : Adr) (pt : Addr) : Sp := fun vs H Q _ => ∃ L s, Rep A H L s ∧ KM.Wf s ∧ KM.Stable s ∧ vs = [.ref (L.a .off)] ∧ Tab pt H ∧ L.g pt = .out ∧
  ∀ (H' : Hp) (p : Addr) (l : List (Nat × Option Nat)), SameX pt H H' → Tab pt H' → H p = none → H' p = some (.dK (mp (mo l))) → (l.map (·.1)).Nodup → (∀ n, n ∈ l.map (·.1) ↔ s.here n = true) → (∀ q ∈ l, KM.IsWhen s q.1 q.2) → Q (.ref p) H'
theorem ok_moments_of_going {pt : Addr} (T : Txt K mg A) (D : DefInC K mg "moments_of_going" s_moments_of_going ["office"] pt) (B : KL.BMain mg base) (c_things_here : Callee P w K mg base "things_here" 1 ["office"] (spThingsHere A)) (c_is_held : Callee P w K mg base "is_held" 1 ["office", "x"] (spIsHeld A))
    (c_mark_with_needs : Callee P w K mg base "mark_with_needs" 1 ["office", "x", "mark", "marks"] (spMark A)) : Callee P w K mg base "moments_of_going" 3 ["office"] (spMoments A pt) := by
  refine Callee.ofC D B sc_moments_of_going (fun vs H Q E h => ?_) (fun f cdv lamC Ar outer sh H vs Q E hr h => ?_)
  · obtain ⟨_, _, _, _, _, rfl, _⟩ := h
    rfl
  · obtain ⟨L, s, R, W, St, rfl, tab, gpt, q⟩ := h
    refine ⟨_, (pss_cons (ps_set (i := 1) sc_moments_of_going.nd rfl (by first | exact Or.inl rfl | exact Or.inr rfl) pe_dnewK)
      (pss_cons (ps_set (i := 2) sc_moments_of_going.nd rfl (by first | exact Or.inl rfl | exact Or.inr rfl) (pe_callC c_things_here (hr.mono (by decide)) rfl (pa_cons (pv 0) pa_nil)))
      (pss_cons (ps_for PassesOwn.never rfl (pi_list (pv 2)) (pg_name (i := 3) sc_moments_of_going.nd rfl (by first | exact Or.inl rfl | exact Or.inr rfl)) (pss_one (ps_if (pt_val (pe_callC c_is_held (hr.mono (by decide)) rfl (pa_cons (pv 0) (pa_cons (pv 3) pa_nil)))) (pss_one (ps_expr (pe_callC c_mark_with_needs (hr.mono (by decide)) rfl (pa_cons (pv 0) (pa_cons (pv 3) (pa_cons pe_non (pa_cons (pv 1) pa_nil))))))) pss_nil)))
      (pss_cons (ps_for PassesOwn.never rfl (pi_list (KL.pe_sortedKey (i := 0) hr rfl T.b_sorted (pv 2) lamC (fun _ _ _ _ _ _ _ => (pe_fldK (K := K) rfl (pe_ix (ix_listK (K := K) rfl) (pe_fldK (K := K) rfl (pv 1) rfl) (pv 0) (fun _ _ => rfl)) rfl)))) (pg_name (i := 3) sc_moments_of_going.nd rfl (by first | exact Or.inl rfl | exact Or.inr rfl)) (pss_one (ps_expr (pe_callC c_mark_with_needs (hr.mono (by decide)) rfl (pa_cons (pv 0) (pa_cons (pv 3) (pa_cons (pe_fld (pe_ix ix_list (pe_fld (pv 0) rfl) (pv 3) (fun _ _ => rfl)) rfl) (pa_cons (pv 1) pa_nil))))))))
      (pss_one (ps_ret (pv 1))))))), ?_⟩
    -- moments = {}; here = things_here(office)
    intro m hm
    have S0 : Same H (upd H m (.dK [])) := sameNew (Same.refl H) hm
    have gm : L.g m = .out := R.own m hm
    refine ⟨_, rfl, L, s, R.same S0, W, rfl, fun H1 D S1 hD hl => ?_⟩
    have hDm : D ≠ m := fun z => by rw [z, upd_same] at hD; cases hD
    have hD0 : H D = none := by rw [upd_ne hDm] at hD; exact hD
    have S2 := S0.trans S1
    obtain ⟨ps0, hpt⟩ := tab.some
    have mpt : m ≠ pt := (ne_of_none hpt hm).symm
    -- for x in here: if is_held(office, x)
    refine ⟨_, rfl, D, rfl, ⟨_, SqL.of hl⟩, for_list (K := K) (a := D) (xs := vints (hereL s s.things.length))
      (fun i σ H' => ∃ (v : Option V) (l : List Nat), σ = [some (.ref (L.a .off)), some (.ref m), some (.ref D), v] ∧ Same H H' ∧ H' D = some (.lst (vints (hereL s s.things.length))) ∧ H' m = some (.dK (mp (mo (l.map fun n => (n, none))))) ∧ l.Nodup ∧ (∀ n ∈ l, s.here n = true ∧ ∃ z, s.held z = true ∧ KM.Up s n z) ∧ KM.Clo s l ∧ ∀ y ∈ (hereL s s.things.length).take i, s.held y = true → y ∈ l)
      ⟨none, [], rfl, S2, hl, S1 _ _ upd_same, by simp, fun n hn => by simp at hn, fun n hn => by simp at hn, fun y hy => by simp at hy⟩ (fun i σ H' _ ⟨_, _, _, _, h3, _⟩ => SqL.of h3) ?_ ?_⟩
    · rintro i y σ H' hi ⟨v, l, rfl, S3, h3, h4, nd, kp, clo, root⟩
      obtain ⟨x, hx, rfl⟩ := vints_get hi
      have hh : s.here x = true := mem_hereL.mp (List.mem_of_getElem? hx)
      have R3 := R.same S3
      refine ⟨_, rfl, _, rfl, L, s, x, R3, rfl, KM.here_lt hh, _, rfl, ?_⟩
      cases c : s.held x with
      | false =>
        refine iteF ⟨_, l, rfl, S3, h3, h4, nd, kp, clo, fun z hz ho => ?_⟩
        rw [take_succ hx] at hz
        rcases List.mem_append.mp hz with z1 | z1
        · exact root z z1 ho
        · rw [List.mem_singleton.mp z1, c] at ho; cases ho
      | true =>
        have ek : (mo (l.map fun n => (n, none))).map (·.1) = l := by rw [mo_keys, keys_mapO]
        refine iteT ⟨_, rfl, _, rfl, _, rfl, L, s, m, _, x, mo (l.map fun n => (n, none)), R3, W, rfl, hh, h4, gm, by rw [ek]; exact nd, by rw [ek]; exact fun k hk => (kp k hk).1, by rw [ek]; exact clo, ?_⟩
        rw [ek]
        intro H4 new S4 h5 nd5 nw clo5 hx5
        refine ⟨_, l ++ new, rfl, S4.same S3 hm, S4 _ _ hDm h3, ?_, nd5, fun n hn => ?_, clo5, fun z hz ho => ?_⟩
        · rw [h5, List.map_append, mo_append, mo_new new]
          rfl
        · rcases List.mem_append.mp hn with z | z
          · exact kp n z
          · exact ⟨(nw n z).1, x, c, (nw n z).2⟩
        · rw [take_succ hx] at hz
          rcases List.mem_append.mp hz with z1 | z1
          · exact List.mem_append.mpr (.inl (root z z1 ho))
          · rw [List.mem_singleton.mp z1]; exact hx5
    · rintro σ H3 ⟨v, l, rfl, S3, h3, h4, nd, kp, clo, root⟩
      rw [vints_len, List.take_length] at root
      have tab3 := tab.same S3
      -- sorted(here, key=.., reverse=True)
      refine ⟨_, rfl, D, (hereL s s.things.length).map fun (n : Nat) => (n : Int), fun z => (dueOf s z.toNat : Int), _, rfl, (by rw [← vints_map]; exact SqL.of h3), rfl, tab3, fun H4 S4 tab4 => ⟨fun n hn => ?_, fun ns E hp hs hE => ?_⟩⟩
      · obtain ⟨x, hx, rfl⟩ := List.mem_map.mp hn
        have hh : s.here x = true := mem_hereL.mp hx
        obtain ⟨t, e, g⟩ := KM.here_iff.mp hh
        have R4 : Rep A H4 L s := (R.same S3).sameX gpt fun b o n e => S4 b o n e
        obtain ⟨dx, ho⟩ := R4.off
        obtain ⟨dt, ht⟩ := R4.t e
        refine ⟨_, rfl, _, _, dx, _, _, rfl, ho, T.cl_Office, T.n_Office_things, rfl, _, rfl, _, _, _, _, rfl, rfl, SqL.of R4.th, atI_nat (refs_get (KM.here_lt hh)), _, _, dt, _, _, rfl, ht, T.cl_Thing, T.n_Thing_due, rfl, ?_, rfl⟩
        show V.int _ = V.int (dueOf s ((x : Int)).toNat : Int)
        rw [Int.toNat_natCast, dueOf_eq e]
      · have tab4 : Tab pt H4 := tab4
        obtain ⟨ds, rfl, pd⟩ := perm_nat hp
        have hs' : ds.Pairwise (fun x y => dueOf s y ≤ dueOf s x) := by
          rw [List.pairwise_map] at hs
          refine hs.imp fun {x y} z => ?_
          have z' : (dueOf s ((y : Int)).toNat : Int) ≤ (dueOf s ((x : Int)).toNat : Int) := z
          rw [Int.toNat_natCast, Int.toNat_natCast] at z'
          omega
        have mem_ds : ∀ x, x ∈ ds ↔ s.here x = true := fun x => by rw [pd.mem_iff]; exact mem_hereL
        have h4m : H4 m = some (.dK (mp (mo (l.map fun n => (n, none))))) := S4 _ _ mpt h4
        have Em : E ≠ m := (ne_of_none h4m hE).symm
        have S04 : SameX pt H H4 := fun b o n e => S4 b o n (S3 b o e)
        have hE0 : E = pt ∨ H E = none := by
          by_cases c : E = pt
          · exact .inl c
          · right
            cases z : H E with
            | none => rfl
            | some o => rw [S04 E o c z] at hE; cases hE
        have hEp : E ≠ pt := fun z => by
          obtain ⟨ps, h⟩ := tab4.some
          rw [z, h] at hE; cases hE
        have hE1 : H E = none := hE0.resolve_left hEp
        rw [← vints_map]
        refine ⟨E, rfl, ⟨_, SqL.of upd_same⟩, for_list (K := K) (a := E) (xs := vints ds)
          (fun i σ H' => ∃ (v : Option V) (l : List (Nat × Option Nat)), σ = [some (.ref (L.a .off)), some (.ref m), some (.ref D), v] ∧ SameX pt H H' ∧ Tab pt H' ∧ H' E = some (.lst (vints ds)) ∧ H' m = some (.dK (mp (mo l))) ∧ (l.map (·.1)).Nodup ∧ (∀ n ∈ l.map (·.1), s.here n = true) ∧ KM.Clo s (l.map (·.1)) ∧ (∀ q ∈ l, KM.IsWhen s q.1 q.2) ∧
            (∀ z, s.here z = true → s.held z = true → z ∈ l.map (·.1)) ∧ ∀ y ∈ ds.take i, y ∈ l.map (·.1))
          ⟨v, l.map fun n => (n, none), rfl, fun b o n e => by rw [upd_ne (ne_of_none e hE1)]; exact S04 b o n e, tab4.new hE, upd_same, by rw [upd_ne Em.symm]; exact h4m, by rw [keys_mapO]; exact nd, by rw [keys_mapO]; exact fun n hn => (kp n hn).1, by rw [keys_mapO]; exact clo, fun q hq => ?_, by rw [keys_mapO]; exact fun z h1 h2 => root z (mem_hereL.mpr h1) h2, fun y hy => by simp at hy⟩
          (fun i σ H' _ ⟨_, _, _, _, _, h, _⟩ => SqL.of h) ?_ ?_⟩
        · obtain ⟨n, hn, rfl⟩ := List.mem_map.mp hq
          obtain ⟨_, z, hz, u⟩ := kp n hn
          exact KM.when_held u hz
        · rintro i y σ H5 hi ⟨v, l2, rfl, S5, tab5, h5E, h5m, nd5, he5, clo5, wh5, held5, root5⟩
          obtain ⟨x, hx, rfl⟩ := vints_get hi
          have hh : s.here x = true := (mem_ds x).mp (List.mem_of_getElem? hx)
          obtain ⟨t, e, g⟩ := KM.here_iff.mp hh
          have R5 : Rep A H5 L s := R.sameX gpt S5
          obtain ⟨dx, ho⟩ := R5.off
          obtain ⟨dt, ht⟩ := R5.t e
          have ek : (mo l2).map (·.1) = l2.map (·.1) := mo_keys l2
          refine ⟨_, rfl, _, rfl, _, rfl, _, _, dx, _, _, rfl, ho, T.cl_Office, T.n_Office_things, rfl, _, rfl, _, _, _, _, rfl, rfl, SqL.of R5.th, atI_nat (refs_get (KM.here_lt hh)), _, _, dt, _, _, rfl, ht, T.cl_Thing, T.n_Thing_due, rfl, _, rfl, ?_⟩
          refine ⟨L, s, m, .int t.due, x, mo l2, R5, W, rfl, hh, h5m, gm, by rw [ek]; exact nd5, by rw [ek]; exact he5, by rw [ek]; exact clo5, ?_⟩
          rw [ek]
          intro H6 new S6 h6 nd6 nw clo6 hx6
          have el : (l2 ++ new.map fun n => (n, some t.due)).map (·.1) = l2.map (·.1) ++ new := by rw [List.map_append, keys_mapO]
          refine ⟨_, l2 ++ new.map fun n => (n, some t.due), rfl, fun b o n e => S6 b o (ne_of_none e hm) (S5 b o n e), tab5.sameX h5m S6, S6 _ _ Em h5E, ?_, by rw [el]; exact nd6, by rw [el]; exact fun n hn => (List.mem_append.mp hn).elim (he5 n) fun z => (nw n z).1, by rw [el]; exact clo6, fun q hq => ?_, by rw [el]; exact fun z h1 h2 => List.mem_append.mpr (.inl (held5 z h1 h2)), fun z hz => ?_⟩
          · rw [h6, mo_append, mo_new]
            rfl
          · rcases List.mem_append.mp hq with z | z
            · exact wh5 q z
            · obtain ⟨n, hn, rfl⟩ := List.mem_map.mp z
              obtain ⟨hn1, hn2⟩ := nw n hn
              have nk : n ∉ l2.map (·.1) := fun z => (List.nodup_append.mp nd6).2.2 n z n hn rfl
              refine KM.when_due St hn1 (fun z u => ?_) (fun z tz u ez => ?_) hn2 e rfl
              · cases c : s.held z with
                | false => rfl
                | true => exact absurd (KM.clo_up clo5 u (held5 z (u.here hn1) c)) nk
              · have hz := (mem_ds z).mpr (u.here hn1)
                rw [← List.take_append_drop i ds] at hz
                rcases List.mem_append.mp hz with y | y
                · exact absurd (KM.clo_up clo5 u (root5 z y)) nk
                · have ed : ds.drop i = x :: ds.drop (i + 1) := by
                    obtain ⟨h1, h2⟩ := List.getElem?_eq_some_iff.mp hx
                    rw [List.drop_eq_getElem_cons h1, h2]
                  rw [ed] at y
                  have pw := List.Pairwise.sublist (List.drop_sublist i ds) hs'
                  rw [ed] at pw
                  have := (List.pairwise_cons.mp pw).1
                  rcases List.mem_cons.mp y with y | y
                  · subst y
                    rw [ez] at e
                    cases e
                    exact Nat.le_refl _
                  · have := this z y
                    rw [dueOf_eq ez, dueOf_eq e] at this
                    exact this
          · rw [el]
            rw [take_succ hx] at hz
            rcases List.mem_append.mp hz with y | y
            · exact List.mem_append.mpr (.inl (root5 z y))
            · rw [List.mem_singleton.mp y]; exact hx6
        · rintro σ H5 ⟨v, l2, rfl, S5, tab5, h5E, h5m, nd5, he5, clo5, wh5, held5, root5⟩
          rw [vints_len, List.take_length] at root5
          exact ⟨_, rfl, q H5 m l2 S5 tab5 hm h5m nd5 (fun n => ⟨he5 n, fun h => root5 n ((mem_ds n).mpr h)⟩) wh5⟩
end
end KB

set_option Elab.async false
set_option linter.all false
set_option autoImplicit false
set_option maxRecDepth 100000
set_option maxHeartbeats 2000000
namespace KB
open PySem PySem.Spec PyProof.Rows L2
theorem Tab.out {A : Adr} {pt : Addr} {H : Hp} {L : Lo} {s : Keep.State} (t : Tab pt H) (R : Rep A H L s) : L.g pt = .out := by
  obtain ⟨ps, h⟩ := t.some
  exact R.owx pt (by rw [h]; trivial)
/-- what isn't the office's and isn't the table is as it was -/
def FrX (pt : Addr) (H : Hp) (L : Lo) (H' : Hp) (L' : Lo) : Prop := ∀ b o, b ≠ pt → H b = some o → L.g b = .out → H' b = some o ∧ L'.g b = .out
theorem FrX.of {pt : Addr} {H H' : Hp} {L L' : Lo} (F : Fr H L H' L') : FrX pt H L H' L' := fun b o _ e g => F b o e g
theorem FrX.trans {pt : Addr} {H H1 H2 : Hp} {L L1 L2 : Lo} (a : FrX pt H L H1 L1) (b : FrX pt H1 L1 H2 L2) : FrX pt H L H2 L2 := fun c o n h g => let ⟨x, y⟩ := a c o n h g; b c o n x y
theorem FrX.same {pt : Addr} {H H' : Hp} {L : Lo} (S : SameX pt H H') : FrX pt H L H' L := fun b o n e g => ⟨S b o n e, g⟩
theorem Tab.fr {A : Adr} {pt : Addr} {H H' : Hp} {L L' : Lo} {s : Keep.State} (t : Tab pt H) (R : Rep A H L s) (F : Fr H L H' L') : Tab pt H' := by
  obtain ⟨ps, h1, h2, h3⟩ := t
  refine ⟨ps, (F _ _ h1 (R.owx _ (by rw [h1]; trivial))).1, h2, ?_⟩
  rcases h3 with h3 | ⟨c, h3, h4⟩
  · exact .inl h3
  · exact .inr ⟨c, h3, (F _ _ h4 (R.owx _ (by rw [h4]; trivial))).1⟩
/-- behind a call: the state, and the answer as a pair of its number and its list -/
def Told (A : Adr) (pt : Addr) (H : Hp) (L : Lo) (s : Keep.State) (a : Keep.Answer) (Q : VK) : Prop := ∀ (H' : Hp) (L' : Lo) (tp lp : Addr), L'.a .off = L.a .off → Rep A H' L' s → FrX pt H L H' L' → Tab pt H' → H' tp = some (.tup [.int a.ret, .ref lp]) → H' lp = some (.lst (vints a.nums)) → Q (.ref tp) H'
/-- nothing is changed: a list, then the pair, are laid behind what a frame says -/
theorem Told.lay {A : Adr} {pt : Addr} {H H1 : Hp} {L : Lo} {s : Keep.State} {a : Keep.Answer} {Q : VK} (t : Told A pt H L s a Q) (R : Rep A H1 L s) (F : FrX pt H L H1 L) (tb : Tab pt H1) {lp : Addr} (hl : H1 lp = some (.lst (vints a.nums))) {tp : Addr} (ht : H1 tp = none) : Q (.ref tp) (upd H1 tp (.tup [.int a.ret, .ref lp])) :=
  t _ L tp lp rfl (R.new ht) (F.trans (FrX.of (Fr.new ht))) (tb.new ht) upd_same (by rw [upd_ne (ne_of_none hl ht)]; exact hl)
/-- an empty list, then the pair -/
theorem Told.nil {A : Adr} {pt : Addr} {H H1 : Hp} {L : Lo} {s : Keep.State} {a : Keep.Answer} {Q : VK} (t : Told A pt H L s a Q) (R : Rep A H1 L s) (F : FrX pt H L H1 L) (tb : Tab pt H1) (hn : a.nums = []) {lp : Addr} (hl : H1 lp = none) {tp : Addr} (ht : upd H1 lp (.lst []) tp = none) : Q (.ref tp) (upd (upd H1 lp (.lst [])) tp (.tup [.int a.ret, .ref lp])) :=
  t.lay (R.new hl) (F.trans (FrX.of (Fr.new hl))) (tb.new hl) (by rw [upd_same, hn]; rfl) ht
theorem Told.at {A : Adr} {pt : Addr} {H H1 : Hp} {L : Lo} {s : Keep.State} {a : Keep.Answer} {Q : VK} {xs : List V} (t : Told A pt H L s a Q) (R : Rep A H1 L s) (F : FrX pt H L H1 L) (tb : Tab pt H1) (hn : xs = vints a.nums) {lp : Addr} (hl : H1 lp = none) {tp : Addr} (ht : upd H1 lp (.lst xs) tp = none) : Q (.ref tp) (upd (upd H1 lp (.lst xs)) tp (.tup [.int a.ret, .ref lp])) :=
  t.lay (R.new hl) (F.trans (FrX.of (Fr.new hl))) (tb.new hl) (by rw [upd_same, hn]) ht
theorem FrX.refl (pt : Addr) (H : Hp) (L : Lo) : FrX pt H L H L := fun _ _ _ h g => ⟨h, g⟩
section
variable {P : Program} {w : World} {K : PySem.W.Frag} {mg : Str → Option Value} {base : Heap} {A : Adr} {pt : Addr}
/-! ### tell_thing -/
def spTell (A : Adr) (pt : Addr) (c : Nat → Keep.Call) : Sp := fun vs H Q _ => ∃ L s, ∃ x : Nat, Rep A H L s ∧ KM.Wf s ∧ KM.Stable s ∧ Tab pt H ∧ vs = [.ref (L.a .off), .int x] ∧ Told A pt H L s (Keep.step s (c x)).2 Q
def spTell0 (A : Adr) (pt : Addr) (c : Keep.Call) : Sp := fun vs H Q _ => ∃ L s, Rep A H L s ∧ KM.Wf s ∧ KM.Stable s ∧ Tab pt H ∧ vs = [.ref (L.a .off)] ∧ Told A pt H L s (Keep.step s c).2 Q
theorem sorted_needs {ns : List Nat} {ms : List Int} {l : List Nat} (p : ns.Perm l) (hr : l.Pairwise (· < ·)) (hp : ms.Perm (ns.map fun (n : Nat) => (n : Int))) (hs : ms.Pairwise (· ≤ ·)) : ms = l.map fun (n : Nat) => (n : Int) := by
  refine List.Perm.eq_of_pairwise (le := (· ≤ ·)) (fun a b _ _ h1 h2 => by omega) hs ?_ (hp.trans (p.map _))
  rw [List.pairwise_map]
  exact hr.imp fun {a b} h => by omega
theorem ok_tell_thing (T : Txt K mg A) (D : DefIn K mg "tell_thing" s_tell_thing ["office", "x"]) : Callee P w K mg base "tell_thing" 1 ["office", "x"] (spTell A pt .thing) := by
  refine Callee.of D sc_tell_thing (fun vs H Q E h => ?_) (fun f cdv Ar outer sh H vs Q E hr h => ?_)
  · obtain ⟨_, _, _, _, _, _, _, rfl, _⟩ := h
    rfl
  · obtain ⟨L, s, x, R, W, St, tb, rfl, q⟩ := h
    obtain ⟨dx, ho⟩ := R.off
    refine ⟨_, (pss_cons (ps_if (pt_cmpR op_ge (pv 1) (pe_callB call_len_seq rfl T.b_len bt_len (pa_cons (pe_fld (pv 0) rfl) pa_nil)) (nomark _)) (pss_one (ps_ret (pe_tup (pa_cons (pe_globI rfl T.g_NOT_THERE) (pa_cons (pe_lst pa_nil) pa_nil))))) pss_nil)
      (pss_cons (ps_set (i := 2) sc_tell_thing.nd rfl (by first | exact Or.inl rfl | exact Or.inr rfl) (pe_ix ix_list (pe_fld (pv 0) rfl) (pv 1) (fun _ _ => rfl)))
      (pss_cons (ps_set (i := 3) sc_tell_thing.nd rfl (by first | exact Or.inl rfl | exact Or.inr rfl) (pe_ifExp (pt_val (pe_fld (pv 2) rfl)) pe_int pe_int))
      (pss_one (ps_ret (pe_tup (pa_cons (pv 3) (pa_cons (pe_op op_cat (pe_lst (pa_cons (pe_fld (pv 2) rfl) (pa_cons (pe_fld (pv 2) rfl) (pa_cons (pe_fld (pv 2) rfl) (pa_cons (pe_fld (pv 2) rfl) pa_nil))))) (pe_callB cr_sorted rfl T.b_sorted bt_sorted (pa_cons (pe_fld (pv 2) rfl) pa_nil))) pa_nil)))))))), ?_⟩
    refine ⟨_, rfl, _, rfl, _, _, dx, _, _, rfl, ho, T.cl_Office, T.n_Office_things, rfl, _, _, rfl, .inl (SqL.of R.th), _, _, rfl, rfl, _, rfl, ?_⟩
    rw [refs_len]
    refine ite2 (fun c => ?_) (fun c => ?_)
    · have c' : s.things.length ≤ x := by have := of_decide_eq_true c; omega
      have e : Keep.step s (.thing x) = (s, Keep.says (-4)) := by
        show (s, _) = _
        unfold Keep.State.thing
        rw [List.getElem?_eq_none c']
      rw [e] at q
      refine ⟨Nat.zero_le _, fun lp hl => ⟨(by show 2 ≤ sizeLine; decide), fun tp ht => q.nil R (FrX.refl _ _ _) tb rfl hl ht⟩⟩
    · have c' : x < s.things.length := by
        rcases Nat.lt_or_ge x s.things.length with z | z
        · exact z
        · exact absurd (decide_eq_true (by omega)) c
      obtain ⟨t, e⟩ := get_some c'
      obtain ⟨dt, ht⟩ := R.t e
      obtain ⟨ns, pn, hns⟩ := R.n e
      have es : Keep.step s (.thing x) = (s, Keep.tells (if t.gone = none then 0 else 1) ([t.cls, t.filed, t.due, t.gone.getD 0] ++ t.needs)) := by
        show (s, _) = _
        unfold Keep.State.thing
        rw [e]
      rw [es] at q
      refine ⟨_, rfl, _, _, dx, _, _, rfl, ho, T.cl_Office, T.n_Office_things, rfl, _, rfl, _, _, _, _, rfl, rfl, SqL.of R.th, atI_nat (refs_get c'), ?_⟩
      refine ⟨_, rfl, _, _, dt, _, _, rfl, ht, T.cl_Thing, T.n_Thing_here, rfl, _, rfl, ?_⟩
      have fin : ∀ (H1 : Hp) (l1 l2 l3 tp : Addr) (ms : List Int), H1 = H → H l1 = none → upd H l1 (.lst (vints [t.cls, t.filed, t.due, t.gone.getD 0])) l2 = none → ms.Perm (ns.map fun (n : Nat) => (n : Int)) → ms.Pairwise (· ≤ ·) → upd (upd H l1 (.lst (vints [t.cls, t.filed, t.due, t.gone.getD 0]))) l2 (.lst (ms.map V.int)) l3 = none →
          upd (upd (upd H l1 (.lst (vints [t.cls, t.filed, t.due, t.gone.getD 0]))) l2 (.lst (ms.map V.int))) l3 (.lst (vints [t.cls, t.filed, t.due, t.gone.getD 0] ++ ms.map V.int)) tp = none →
          Q (.ref tp) (upd (upd (upd (upd H l1 (.lst (vints [t.cls, t.filed, t.due, t.gone.getD 0]))) l2 (.lst (ms.map V.int))) l3 (.lst (vints [t.cls, t.filed, t.due, t.gone.getD 0] ++ ms.map V.int))) tp (.tup [.int (if t.gone = none then 0 else 1), .ref l3])) := fun H1 l1 l2 l3 tp ms _ h1 h2 hp hs h3 h4 => by
        have em := sorted_needs pn (W.th x t e).ris hp hs
        have ev : vints [t.cls, t.filed, t.due, t.gone.getD 0] ++ ms.map V.int = vints ([t.cls, t.filed, t.due, t.gone.getD 0] ++ t.needs) := by
          rw [em, ← vints_map]
          unfold vints
          rw [← List.map_append]
        refine q.lay (((R.new h1).new h2).new h3) ((FrX.of (Fr.new h1)).trans ((FrX.of (Fr.new h2)).trans (FrX.of (Fr.new h3)))) (((tb.new h1).new h2).new h3) ?_ h4
        rw [upd_same, ev]
        rfl
      have sz4 : (4 : Nat) ≤ sizeLine := by decide
      have lt64 : ns.length < 64 := by have := (W.th x t e).few; rw [pn.length_eq]; omega
      cases hb : t.gone.isNone with
      | true =>
        rw [if_pos (Option.isNone_iff_eq_none.mp hb)] at fin
        refine iteT ?_
        refine ⟨_, rfl, _, rfl, _, _, dt, _, _, rfl, ht, T.cl_Thing, T.n_Thing_which, rfl, _, rfl, _, _, dt, _, _, rfl, ht, T.cl_Thing, T.n_Thing_filed, rfl, _, rfl, _, _, dt, _, _, rfl, ht, T.cl_Thing, T.n_Thing_due, rfl, _, rfl, _, _, dt, _, _, rfl, ht, T.cl_Thing, T.n_Thing_gone_at, rfl, sz4, fun l1 h1 => ?_⟩
        refine ⟨_, rfl, _, _, dt, _, _, rfl, (by rw [upd_ne (ne_of_none ht h1)]; exact ht), T.cl_Thing, T.n_Thing_needs, rfl, L.a (.n x), ns.map (fun (n : Nat) => (n : Int)), rfl, SqL.of (by rw [upd_ne (ne_of_none hns h1), ← vints_map]; exact hns), (by rw [List.length_map]; exact lt64), fun ms l2 hp hs h2 => ?_⟩
        refine ⟨l1, l2, _, _, rfl, rfl, (by rw [upd_ne (fun z => by rw [← z, upd_same] at h2; cases h2)]; exact upd_same), upd_same, (by show 4 + (ms.map V.int).length ≤ sizeLine; rw [List.length_map, hp.length_eq, List.length_map]; exact Nat.le_of_lt (Nat.lt_of_lt_of_le (Nat.add_lt_add_left lt64 4) (by decide))), fun l3 h3 => ⟨(by show 2 ≤ sizeLine; decide), fun tp h4 => ?_⟩⟩
        exact fin H l1 l2 l3 tp ms rfl h1 h2 hp hs h3 h4
      | false =>
        rw [if_neg (fun z => by rw [z] at hb; cases hb)] at fin
        refine iteF ?_
        refine ⟨_, rfl, _, rfl, _, _, dt, _, _, rfl, ht, T.cl_Thing, T.n_Thing_which, rfl, _, rfl, _, _, dt, _, _, rfl, ht, T.cl_Thing, T.n_Thing_filed, rfl, _, rfl, _, _, dt, _, _, rfl, ht, T.cl_Thing, T.n_Thing_due, rfl, _, rfl, _, _, dt, _, _, rfl, ht, T.cl_Thing, T.n_Thing_gone_at, rfl, sz4, fun l1 h1 => ?_⟩
        refine ⟨_, rfl, _, _, dt, _, _, rfl, (by rw [upd_ne (ne_of_none ht h1)]; exact ht), T.cl_Thing, T.n_Thing_needs, rfl, L.a (.n x), ns.map (fun (n : Nat) => (n : Int)), rfl, SqL.of (by rw [upd_ne (ne_of_none hns h1), ← vints_map]; exact hns), (by rw [List.length_map]; exact lt64), fun ms l2 hp hs h2 => ?_⟩
        refine ⟨l1, l2, _, _, rfl, rfl, (by rw [upd_ne (fun z => by rw [← z, upd_same] at h2; cases h2)]; exact upd_same), upd_same, (by show 4 + (ms.map V.int).length ≤ sizeLine; rw [List.length_map, hp.length_eq, List.length_map]; exact Nat.le_of_lt (Nat.lt_of_lt_of_le (Nat.add_lt_add_left lt64 4) (by decide))), fun l3 h3 => ⟨(by show 2 ≤ sizeLine; decide), fun tp h4 => ?_⟩⟩
        exact fin H l1 l2 l3 tp ms rfl h1 h2 hp hs h3 h4
/-! ### tell_went -/
theorem ok_tell_went (T : Txt K mg A) (D : DefIn K mg "tell_went" s_tell_went ["office", "i"]) : Callee P w K mg base "tell_went" 1 ["office", "i"] (spTell A pt .went) := by
  refine Callee.of D sc_tell_went (fun vs H Q E h => ?_) (fun f cdv Ar outer sh H vs Q E hr h => ?_)
  · obtain ⟨_, _, _, _, _, _, _, rfl, _⟩ := h
    rfl
  · obtain ⟨L, s, i, R, W, St, tb, rfl, q⟩ := h
    obtain ⟨dx, ho⟩ := R.off
    refine ⟨_, (pss_cons (ps_if (pt_cmpR op_ge (pv 1) (pe_callB call_len_seq rfl T.b_len bt_len (pa_cons (pe_fld (pv 0) rfl) pa_nil)) (nomark _)) (pss_one (ps_ret (pe_tup (pa_cons (pe_globI rfl T.g_NOT_THERE) (pa_cons (pe_lst pa_nil) pa_nil))))) pss_nil)
      (pss_cons (ps_set (i := 2) sc_tell_went.nd rfl (by first | exact Or.inl rfl | exact Or.inr rfl) (pe_ix ix_list (pe_fld (pv 0) rfl) (pv 1) (fun _ _ => rfl)))
      (pss_one (ps_ret (pe_tup (pa_cons pe_int (pa_cons (pe_lst (pa_cons (pv 2) (pa_cons (pe_fld (pe_ix ix_list (pe_fld (pv 0) rfl) (pv 2) (fun _ _ => rfl)) rfl) pa_nil))) pa_nil))))))), ?_⟩
    refine ⟨_, rfl, _, rfl, _, _, dx, _, _, rfl, ho, T.cl_Office, T.n_Office_gone, rfl, _, _, rfl, .inl (SqL.of R.go), _, _, rfl, rfl, _, rfl, ?_⟩
    rw [vints_len, List.length_map]
    refine ite2 (fun c => ?_) (fun c => ?_)
    · have c' : s.went.length ≤ i := by have := of_decide_eq_true c; omega
      have e : Keep.step s (.went i) = (s, Keep.says (-4)) := by
        show (s, _) = _
        rw [List.getElem?_eq_none c']
      rw [e] at q
      exact ⟨Nat.zero_le _, fun lp hl => ⟨(by show 2 ≤ sizeLine; decide), fun tp ht => q.nil R (FrX.refl _ _ _) tb rfl hl ht⟩⟩
    · have c' : i < s.went.length := by
        rcases Nat.lt_or_ge i s.went.length with z | z
        · exact z
        · exact absurd (decide_eq_true (by omega)) c
      obtain ⟨g, eg⟩ := get_some c'
      have e : Keep.step s (.went i) = (s, Keep.tells 0 [g.1, g.2]) := by
        show (s, _) = _
        rw [eg]
      rw [e] at q
      obtain ⟨t, et, hg⟩ := W.wl g (List.mem_of_getElem? eg)
      obtain ⟨dt, ht⟩ := R.t et
      have lt := (List.getElem?_eq_some_iff.mp et).1
      have gi : (vints (s.went.map (·.1)))[i]? = some (V.int (g.1 : Int)) := by
        unfold vints
        rw [List.getElem?_map, List.getElem?_map, eg]
        rfl
      refine ⟨_, rfl, _, _, dx, _, _, rfl, ho, T.cl_Office, T.n_Office_gone, rfl, _, rfl, _, _, _, _, rfl, rfl, SqL.of R.go, atI_nat gi, ?_⟩
      refine ⟨_, rfl, _, rfl, _, _, dx, _, _, rfl, ho, T.cl_Office, T.n_Office_things, rfl, _, rfl, _, _, _, _, rfl, rfl, SqL.of R.th, atI_nat (refs_get lt), _, _, dt, _, _, rfl, ht, T.cl_Thing, T.n_Thing_gone_at, rfl, (by show 2 ≤ sizeLine; decide), fun lp hl => ⟨(by show 2 ≤ sizeLine; decide), fun tp h2 => ?_⟩⟩
      refine q.at R (FrX.refl _ _ _) tb ?_ hl h2
      show [V.int (g.1 : Int), V.int ((t.gone.getD 0 : Nat) : Int)] = vints [g.1, g.2]
      rw [hg]
      rfl
/-! ### tell_told -/
theorem filter_range {α : Type} (p : α → Bool) : ∀ (l : List α), (l.filter p).length = ((List.range l.length).filter fun i => (l[i]?).any p).length := by
  intro l
  induction l with
  | nil => rfl
  | cons a l ih =>
    have e : (List.range (l.length + 1)).filter (fun i => ((a :: l)[i]?).any p) = (if p a = true then [0] else []) ++ ((List.range l.length).filter fun i => (l[i]?).any p).map (· + 1) := by
      rw [List.range_succ_eq_map, List.filter_cons, List.filter_map]
      by_cases c : p a = true
      · rw [if_pos c, if_pos (show ((a :: l)[0]?).any p = true from c)]; rfl
      · rw [if_neg c, if_neg (show ¬ ((a :: l)[0]?).any p = true from c)]; rfl
    rw [List.length_cons, e, List.length_append, List.length_map, ← ih, List.filter_cons]
    by_cases c : p a = true
    · rw [if_pos c, if_pos c]; simp; omega
    · rw [if_neg c, if_neg c]; simp
theorem len_split (p : Nat → Bool) : ∀ l : List Nat, (l.filter p).length + (l.filter fun x => !p x).length = l.length
  | [] => rfl
  | a :: l => by
    have ih := len_split p l
    rw [List.filter_cons, List.filter_cons, List.length_cons]
    cases p a with
    | true => simp; omega
    | false => simp; omega
theorem told_here {s : Keep.State} (W : KM.Wf s) : (s.things.filter fun (t : Keep.Thing) => t.gone.isNone).length + s.went.length = s.things.length := by
  rw [filter_range]
  have e1 : ((List.range s.things.length).filter fun i => (s.things[i]?).any fun (t : Keep.Thing) => t.gone.isNone) = hereL s s.things.length := rfl
  have p : (s.went.map (·.1)).Perm ((List.range s.things.length).filter fun x => !s.here x) := by
    refine (List.perm_ext_iff_of_nodup W.wn (List.Nodup.sublist List.filter_sublist List.nodup_range)).mpr fun x => ?_
    rw [List.mem_filter, List.mem_range, List.mem_map]
    constructor
    · rintro ⟨g, hg, rfl⟩
      obtain ⟨t, et, eg⟩ := W.wl g hg
      refine ⟨(List.getElem?_eq_some_iff.mp et).1, ?_⟩
      rw [here_some et, eg]
      rfl
    · rintro ⟨lt, h⟩
      obtain ⟨t, et⟩ := get_some lt
      rw [here_some et] at h
      cases hg : t.gone with
      | none => rw [hg] at h; cases h
      | some g => exact ⟨(x, g), W.wg x t g et hg, rfl⟩
  have e2 := p.length_eq
  rw [List.length_map] at e2
  rw [e1, e2]
  have := len_split s.here (List.range s.things.length)
  rw [List.length_range] at this
  unfold hereL
  omega
theorem ok_tell_told (T : Txt K mg A) (D : DefIn K mg "tell_told" s_tell_told ["office"]) : Callee P w K mg base "tell_told" 1 ["office"] (spTell0 A pt .told) := by
  refine Callee.of D sc_tell_told (fun vs H Q E h => ?_) (fun f cdv Ar outer sh H vs Q E hr h => ?_)
  · obtain ⟨_, _, _, _, _, _, rfl, _⟩ := h
    rfl
  · obtain ⟨L, s, R, W, St, tb, rfl, q⟩ := h
    obtain ⟨dx, ho⟩ := R.off
    have th := told_here W
    refine ⟨_, (pss_cons (ps_set (i := 1) sc_tell_told.nd rfl (by first | exact Or.inl rfl | exact Or.inr rfl) (pe_op op_sub (pe_callB call_len_seq rfl T.b_len bt_len (pa_cons (pe_fld (pv 0) rfl) pa_nil)) (pe_callB call_len_seq rfl T.b_len bt_len (pa_cons (pe_fld (pv 0) rfl) pa_nil))))
      (pss_cons (ps_set (i := 2) sc_tell_told.nd rfl (by first | exact Or.inl rfl | exact Or.inr rfl) (pe_callB call_len_seq rfl T.b_len bt_len (pa_cons (pe_lc rfl sc_tell_told.nd (pi_list (pe_fld (pv 0) rfl)) (blkOk_by (own := [("matter", 3)]) rfl) (fun _ _ _ _ _ => (pg_name (i := 3) sc_tell_told.nd rfl (by first | exact Or.inl rfl | exact Or.inr rfl))) (fun _ _ _ _ _ => (pts_one (pt_val (pe_fldK (K := K) rfl (pv 3) rfl)))) (fun _ _ _ _ _ => (pv 3))) pa_nil)))
      (pss_one (ps_ret (pe_tup (pa_cons pe_int (pa_cons (pe_lst (pa_cons (pe_fld (pv 0) rfl) (pa_cons (pe_callB call_len_seq rfl T.b_len bt_len (pa_cons (pe_fld (pv 0) rfl) pa_nil)) (pa_cons (pe_callB call_len_seq rfl T.b_len bt_len (pa_cons (pe_fld (pv 0) rfl) pa_nil)) (pa_cons (pv 1) (pa_cons (pv 2) (pa_cons (pe_callB call_len_seq rfl T.b_len bt_len (pa_cons (pe_fld (pv 0) rfl) pa_nil)) pa_nil))))))) pa_nil))))))), ?_⟩
    refine ⟨_, rfl, _, _, dx, _, _, rfl, ho, T.cl_Office, T.n_Office_things, rfl, _, _, rfl, .inl (SqL.of R.th), _, rfl, _, _, dx, _, _, rfl, ho, T.cl_Office, T.n_Office_gone, rfl, _, _, rfl, .inl (SqL.of R.go), _, _, rfl, rfl, ?_⟩
    rw [refs_len, vints_len, List.length_map]
    refine ⟨_, rfl, _, _, dx, _, _, rfl, ho, T.cl_Office, T.n_Office_matters, rfl, L.a .ma, rfl, ⟨_, SqL.of R.ma⟩, fun d hd => ?_⟩
    have mlen : s.matters.length ≤ 32 := W.nma
    refine lc_list (K := K) (a := L.a .ma) (xs := (List.range s.matters.length).map fun i => V.ref (L.a (.m i))) (fun i H' => Same H H' ∧ ∃ xs : List V, H' d = some (.lst xs) ∧ xs.length = ((s.matters.take i).filter fun (m : Keep.Matter) => m.stands).length) ⟨sameNew (Same.refl H) hd, [], upd_same, rfl⟩ (fun i H' _ ⟨S, _⟩ => SqL.of (S _ _ R.ma)) (fun i y H' hi ⟨S, xs, hxs, hlen⟩ => ?_) (fun H1 ⟨S1, xs, hxs, hlen⟩ => ?_)
    · obtain ⟨li, rfl⟩ := refs_at hi
      obtain ⟨m, em⟩ := get_some li
      obtain ⟨dm, hm⟩ := (R.same S).m em
      have tl : ((s.matters.take i).filter fun (m : Keep.Matter) => m.stands).length ≤ 32 := Nat.le_trans (List.length_filter_le _ _) (Nat.le_trans (List.length_take_le' _ _) mlen)
      have ts : ((s.matters.take (i + 1)).filter fun (m : Keep.Matter) => m.stands) = ((s.matters.take i).filter fun (m : Keep.Matter) => m.stands) ++ (if m.stands = true then [m] else []) := by
        rw [take_succ em, List.filter_append, List.filter_cons, List.filter_nil]
      refine ⟨rfl, _, rfl, _, _, dm, _, _, rfl, hm, T.cl_Matter, T.n_Matter_stands, rfl, _, rfl, ?_⟩
      cases c : m.stands with
      | true =>
        rw [c, if_pos rfl] at ts
        refine iteT ⟨_, rfl, xs, hxs, (by rw [hlen]; exact Nat.lt_of_le_of_lt tl (by decide)), sameNew S hd, _, upd_same, ?_⟩
        rw [ts, List.length_append, List.length_append, hlen]
        rfl
      | false =>
        rw [c, if_neg Bool.false_ne_true, List.append_nil] at ts
        exact iteF ⟨S, xs, hxs, by rw [ts]; exact hlen⟩
    · rw [refs_len, List.take_length] at hlen
      have R1 := R.same S1
      obtain ⟨dx1, ho1⟩ := R1.off
      refine ⟨d, xs, rfl, .inl (SqL.of hxs), ?_⟩
      refine ⟨_, rfl, _, _, dx1, _, _, rfl, ho1, T.cl_Office, T.n_Office_moment, rfl, _, rfl, _, _, dx1, _, _, rfl, ho1, T.cl_Office, T.n_Office_classes, rfl, _, _, rfl, .inl (SqL.of R1.cl), _, rfl, _, _, dx1, _, _, rfl, ho1, T.cl_Office, T.n_Office_things, rfl, _, _, rfl, .inl (SqL.of R1.th), _, rfl, _, rfl, _, rfl, _, _, dx1, _, _, rfl, ho1, T.cl_Office, T.n_Office_gone, rfl, _, _, rfl, .inl (SqL.of R1.go), (by show 6 ≤ sizeLine; decide), fun lp hl => ⟨(by show 2 ≤ sizeLine; decide), fun tp h2 => ?_⟩⟩
      refine q.at R1 (FrX.same fun b o _ e => S1 b o e) (tb.same S1) ?_ hl h2
      rw [refs_len, refs_len, vints_len, List.length_map, hlen]
      show [V.int (s.now : Int), V.int (s.classes.length : Int), V.int (s.things.length : Int), V.int ((s.things.length : Int) - (s.went.length : Int)), V.int (((s.matters.filter fun (m : Keep.Matter) => m.stands).length : Nat) : Int), V.int (s.went.length : Int)] = vints [s.now, s.classes.length, s.things.length, (s.things.filter fun (t : Keep.Thing) => t.gone.isNone).length, (s.matters.filter fun (m : Keep.Matter) => m.stands).length, s.went.length]
      rw [show ((s.things.length : Int) - (s.went.length : Int)) = (((s.things.filter fun (t : Keep.Thing) => t.gone.isNone).length : Nat) : Int) by omega]
      rfl
end
end KB

set_option Elab.async false
set_option linter.all false
set_option autoImplicit false
set_option maxRecDepth 100000
set_option maxHeartbeats 2000000
namespace KB
open PySem PySem.Spec PyProof.Rows L2
section
variable {P : Program} {w : World} {K : PySem.W.Frag} {mg : Str → Option Value} {base : Heap} {A : Adr} {pt : Addr}
/-! ### tell_when -/
theorem mo_get {l : List (Nat × Option Nat)} {x : Nat} (nd : (l.map (·.1)).Nodup) (h : x ∈ l.map (·.1)) : ∃ o, (x, o) ∈ l ∧ valV (mp (mo l)) (Sum.inl (x : Int)) = some (oV o) := by
  obtain ⟨q, hq, rfl⟩ := List.mem_map.mp h
  refine ⟨q.2, hq, ?_⟩
  rw [mp_val]
  exact lookup_mem (by rw [mo_keys]; exact nd) (List.mem_map.mpr ⟨q, hq, rfl⟩)
theorem ok_tell_when (T : Txt K mg A) (D : DefIn K mg "tell_when" s_tell_when ["office", "x"]) (c_is_here : Callee P w K mg base "is_here" 1 ["office", "x"] (spIsHere A)) (c_moments_of_going : Callee P w K mg base "moments_of_going" 3 ["office"] (spMoments A pt)) : Callee P w K mg base "tell_when" 4 ["office", "x"] (spTell A pt .when_) := by
  refine Callee.of D sc_tell_when (fun vs H Q E h => ?_) (fun f cdv Ar outer sh H vs Q E hr h => ?_)
  · obtain ⟨_, _, _, _, _, _, _, rfl, _⟩ := h
    rfl
  · obtain ⟨L, s, x, R, W, St, tb, rfl, q⟩ := h
    refine ⟨_, (pss_cons (ps_if (pt_not (pt_val (pe_callC c_is_here (hr.mono (by decide)) rfl (pa_cons (pv 0) (pa_cons (pv 1) pa_nil))))) (pss_one (ps_ret (pe_tup (pa_cons (pe_globI rfl T.g_NOT_THERE) (pa_cons (pe_lst pa_nil) pa_nil))))) pss_nil)
      (pss_cons (ps_set (i := 2) sc_tell_when.nd rfl (by first | exact Or.inl rfl | exact Or.inr rfl) (pe_dget (hu_of hr) (pe_callC c_moments_of_going (hr.mono (by decide)) rfl (pa_cons (pv 0) pa_nil)) (pv 1) (fun _ _ => rfl)))
      (pss_cons (ps_if (pt_cmp (pc_isN (pv 2))) (pss_one (ps_ret (pe_tup (pa_cons pe_int (pa_cons (pe_lst pa_nil) pa_nil))))) pss_nil)
      (pss_one (ps_ret (pe_tup (pa_cons pe_int (pa_cons (pe_lst (pa_cons (pv 2) pa_nil)) pa_nil)))))))), ?_⟩
    refine ⟨_, rfl, _, rfl, L, s, x, R, rfl, _, rfl, ?_⟩
    have es : Keep.step s (.when_ x) = (s, if s.here x = false then Keep.says (-4) else match s.whenTable.getD x none with
      | none => Keep.says 1
      | some w => Keep.tells 0 [w]) := rfl
    rw [es] at q
    cases c : s.here x with
    | false =>
      rw [if_pos c] at q
      exact iteT ⟨Nat.zero_le _, fun lp hl => ⟨(by show 2 ≤ sizeLine; decide), fun tp ht => q.nil R (FrX.refl _ _ _) tb rfl hl ht⟩⟩
    | true =>
      rw [if_neg (by rw [c]; exact fun z => Bool.noConfusion z)] at q
      refine iteF ⟨_, rfl, L, s, R, W, St, rfl, tb, tb.out R, fun H1 p l S1 tb1 hp hpl nd hk wh => ?_⟩
      have R1 := R.sameX (tb.out R) S1
      have F1 : FrX pt H L H1 L := FrX.same S1
      obtain ⟨o, ho, hv⟩ := mo_get nd ((hk x).mpr c)
      have eo : s.whenTable.getD x none = o := (KM.table_is (KM.here_lt c)).unique (wh _ ho)
      rw [eo] at q
      refine ⟨_, rfl, p, oV o, rfl, (by rw [← hv]; exact DGet.k (k := Sum.inl x) hpl), ?_⟩
      refine ⟨_, rfl, _, rfl, ?_⟩
      cases o with
      | none => exact iteT ⟨Nat.zero_le _, fun lp hl => ⟨(by show 2 ≤ sizeLine; decide), fun tp ht => q.nil R1 F1 tb1 rfl hl ht⟩⟩
      | some w => exact iteF ⟨_, rfl, (by show 1 ≤ sizeLine; decide), fun lp hl => ⟨(by show 2 ≤ sizeLine; decide), fun tp ht => q.at R1 F1 tb1 rfl hl ht⟩⟩
/-! ### tell_why -/
theorem ok_tell_why (T : Txt K mg A) (D : DefIn K mg "tell_why" s_tell_why ["office", "x"]) (c_is_here : Callee P w K mg base "is_here" 1 ["office", "x"] (spIsHere A)) (c_is_held : Callee P w K mg base "is_held" 1 ["office", "x"] (spIsHeld A)) (c_things_here : Callee P w K mg base "things_here" 1 ["office"] (spThingsHere A)) : Callee P w K mg base "tell_why" 2 ["office", "x"] (spTell A pt .why) := by
  refine Callee.of D sc_tell_why (fun vs H Q E h => ?_) (fun f cdv Ar outer sh H vs Q E hr h => ?_)
  · obtain ⟨_, _, _, _, _, _, _, rfl, _⟩ := h
    rfl
  · obtain ⟨L, s, x, R, W, St, tb, rfl, q⟩ := h
    obtain ⟨dx, ho⟩ := R.off
    refine ⟨_, (pss_cons (ps_if (pt_not (pt_val (pe_callC c_is_here (hr.mono (by decide)) rfl (pa_cons (pv 0) (pa_cons (pv 1) pa_nil))))) (pss_one (ps_ret (pe_tup (pa_cons (pe_globI rfl T.g_NOT_THERE) (pa_cons (pe_lst pa_nil) pa_nil))))) pss_nil)
      (pss_cons (ps_if (pt_cmpR op_lt (pe_fld (pv 0) rfl) (pe_fld (pe_ix ix_list (pe_fld (pv 0) rfl) (pv 1) (fun _ _ => rfl)) rfl) (nomark _)) (pss_one (ps_ret (pe_tup (pa_cons pe_int (pa_cons (pe_lst pa_nil) pa_nil))))) pss_nil)
      (pss_cons (ps_if (pt_val (pe_callC c_is_held (hr.mono (by decide)) rfl (pa_cons (pv 0) (pa_cons (pv 1) pa_nil)))) (pss_one (ps_ret (pe_tup (pa_cons pe_int (pa_cons (pe_lst pa_nil) pa_nil))))) pss_nil)
      (pss_one (ps_ret (pe_tup (pa_cons pe_int (pa_cons (pe_lc rfl sc_tell_why.nd (pi_list (pe_callC c_things_here (hr.mono (by decide)) rfl (pa_cons (pv 0) pa_nil))) (blkOk_by (own := [("y", 2)]) rfl) (fun _ _ _ _ _ => (pg_name (i := 2) sc_tell_why.nd rfl (by first | exact Or.inl rfl | exact Or.inr rfl))) (fun _ _ _ _ _ => (pts_one (pt_cmpR (op_in_seqK (K := K) rfl) (pv 1) (pe_fldK (K := K) rfl (pe_ix (ix_listK (K := K) rfl) (pe_fldK (K := K) rfl (pv 0) rfl) (pv 2) (fun _ _ => rfl)) rfl) rfl))) (fun _ _ _ _ _ => (pv 2))) pa_nil)))))))), ?_⟩
    refine ⟨_, rfl, _, rfl, L, s, x, R, rfl, _, rfl, ?_⟩
    have es : Keep.step s (.why x) = (s, if s.here x = false then Keep.says (-4) else if (s.thing x).any (fun (t : Keep.Thing) => decide (s.now < t.due)) = true then Keep.says 1 else if s.held x = true then Keep.says 2 else
      Keep.tells 3 ((List.range s.things.length).filter fun (y : Nat) => s.here y && (s.thing y).any fun (t : Keep.Thing) => t.needs.contains x)) := rfl
    rw [es] at q
    cases c : s.here x with
    | false =>
      rw [if_pos c] at q
      exact iteT ⟨Nat.zero_le _, fun lp hl => ⟨(by show 2 ≤ sizeLine; decide), fun tp ht => q.nil R (FrX.refl _ _ _) tb rfl hl ht⟩⟩
    | true =>
      rw [if_neg (by rw [c]; exact fun z => Bool.noConfusion z)] at q
      have hx := KM.here_lt c
      obtain ⟨t, e, hg⟩ := KM.here_iff.mp c
      obtain ⟨dt, ht⟩ := R.t e
      have ea : (s.thing x).any (fun (t : Keep.Thing) => decide (s.now < t.due)) = decide (s.now < t.due) := by unfold Keep.State.thing; rw [e]; rfl
      rw [ea] at q
      refine iteF ⟨_, rfl, _, _, dx, _, _, rfl, ho, T.cl_Office, T.n_Office_moment, rfl, _, rfl, _, _, dx, _, _, rfl, ho, T.cl_Office, T.n_Office_things, rfl, _, rfl, _, _, _, _, rfl, rfl, SqL.of R.th, atI_nat (refs_get hx), _, _, dt, _, _, rfl, ht, T.cl_Thing, T.n_Thing_due, rfl, _, _, rfl, rfl, _, rfl, ?_⟩
      refine ite2 (fun d => ?_) (fun d => ?_)
      · rw [if_pos (decide_eq_true (show s.now < t.due by have := of_decide_eq_true d; omega))] at q
        exact ⟨Nat.zero_le _, fun lp hl => ⟨(by show 2 ≤ sizeLine; decide), fun tp ht => q.nil R (FrX.refl _ _ _) tb rfl hl ht⟩⟩
      · rw [if_neg (fun z => d (decide_eq_true (by have := of_decide_eq_true z; omega)))] at q
        refine ⟨_, rfl, _, rfl, L, s, x, R, rfl, hx, _, rfl, ?_⟩
        cases hh : s.held x with
        | true =>
          rw [if_pos hh] at q
          exact iteT ⟨Nat.zero_le _, fun lp hl => ⟨(by show 2 ≤ sizeLine; decide), fun tp ht => q.nil R (FrX.refl _ _ _) tb rfl hl ht⟩⟩
        | false =>
          rw [if_neg (by rw [hh]; exact fun z => Bool.noConfusion z)] at q
          refine iteF ⟨_, rfl, L, s, R, W, rfl, fun H1 d1 S1 hd1 hl1 => ?_⟩
          refine ⟨d1, rfl, ⟨_, SqL.of hl1⟩, fun g hg1 => ?_⟩
          have hg0 : H g = none := S1.free hg1
          refine lc_list (K := K) (a := d1) (xs := vints (hereL s s.things.length)) (fun i H' => Same H1 H' ∧ H' g = some (.lst (vints (((hereL s s.things.length).take i).filter fun y => (KM.needsOf s y).contains x)))) ⟨sameNew (Same.refl H1) hg1, upd_same⟩ (fun i H' _ ⟨S, _⟩ => SqL.of (S _ _ hl1)) (fun i v H' hi ⟨S, hgl⟩ => ?_) (fun H3 ⟨S3, hl3⟩ => ?_)
          · obtain ⟨y, hy, rfl⟩ := vints_get hi
            have hyh : s.here y = true := mem_hereL.mp (List.mem_of_getElem? hy)
            have ylt := KM.here_lt hyh
            obtain ⟨u, eu⟩ := get_some ylt
            have R2 := R.same (S1.trans S)
            obtain ⟨dx2, ho2⟩ := R2.off
            obtain ⟨du, hu⟩ := R2.t eu
            obtain ⟨ns, pn, hns⟩ := R2.n eu
            have en : KM.needsOf s y = u.needs := by unfold KM.needsOf Keep.State.thing; rw [eu]; rfl
            have ec : ns.contains x = (KM.needsOf s y).contains x := by
              rw [en]
              cases z : u.needs.contains x with
              | true => exact List.contains_iff_mem.mpr (pn.mem_iff.mpr (List.contains_iff_mem.mp z))
              | false =>
                cases z2 : ns.contains x with
                | false => rfl
                | true => rw [List.contains_iff_mem.mpr (pn.mem_iff.mp (List.contains_iff_mem.mp z2))] at z; cases z
            refine ⟨rfl, _, rfl, _, rfl, _, _, dx2, _, _, rfl, ho2, T.cl_Office, T.n_Office_things, rfl, _, rfl, _, _, _, _, rfl, rfl, SqL.of R2.th, atI_nat (refs_get ylt), _, _, du, _, _, rfl, hu, T.cl_Thing, T.n_Thing_needs, rfl, ?_⟩
            refine ⟨_, _, rfl, .inl (SqL.of hns), rfl, flat_vints ns, _, rfl, ?_⟩
            rw [if_neg Bool.false_ne_true, inV_vints, ec, take_succ hy, List.filter_append]
            cases z : (KM.needsOf s y).contains x with
            | true =>
              refine iteT ⟨_, rfl, _, hgl, ?_, sameNew S hg1, ?_⟩
              · rw [vints_len]
                exact size256 (Nat.le_trans (List.length_filter_le _ _) (Nat.le_trans (List.length_take_le' _ _) (Nat.le_trans (hereL_len _ _) W.nth)))
              · rw [upd_same, vints_snoc, List.filter_cons, z, if_pos rfl, List.filter_nil]
            | false =>
              refine iteF ⟨S, ?_⟩
              rw [List.filter_cons, z, if_neg Bool.false_ne_true, List.filter_nil, List.append_nil]
              exact hgl
          · rw [vints_len, List.take_length] at hl3
            have S03 := S1.trans S3
            refine ⟨(by show 2 ≤ sizeLine; decide), fun tp ht => q.lay (R.same S03) (FrX.same fun b o _ z => S03 b o z) (tb.same S03) ?_ ht⟩
            rw [hl3]
            congr 3
            show _ = (List.range s.things.length).filter _
            unfold hereL
            rw [List.filter_filter]
            apply List.filter_congr
            intro y hy
            obtain ⟨u, eu⟩ := get_some (List.mem_range.mp hy)
            unfold KM.needsOf Keep.State.thing
            rw [eu]
            exact Bool.and_comm _ _
end
end KB

set_option Elab.async false
set_option linter.all false
set_option autoImplicit false
set_option maxRecDepth 100000
set_option maxHeartbeats 2000000
namespace KB
open PySem PySem.Spec PyProof.Rows L2
/-- a comprehension over the keys of a locked dict -/
theorem lc_keys {d : Addr} {o : Obj} {kvs : List (Key × V)} {g : TG} {tt : TT} {te : TE} {vs : List Nat} {σ : L2.St} {H1 : Hp} {D : Addr} {Qd : Hp → Prop} (Pv : Nat → Hp → Prop) (h0 : Pv 0 (upd H1 D (.lst []))) (hl : ∀ i H, i ≤ kvs.length → Pv i H → H d = some (.frz o (.dK kvs)))
    (hs : ∀ i k v H, kvs[i]? = some (k, v) → Pv i H → g (kV k) (wipe σ vs) H fun σ2 H2 => wipe σ2 vs = wipe σ vs ∧ tt σ2 H2 fun b H3 =>
      if b = true then te σ2 H3 fun y H4 => ∃ acc, H4 D = some (.lst acc) ∧ acc.length < sizeLine ∧ Pv (i + 1) (upd H4 D (.lst (acc ++ [y]))) else Pv (i + 1) H3) (hd : ∀ H, Pv kvs.length H → Qd H) :
    ∃ W : Nat → Nat → Hp → Prop, (∃ m, W 0 m (upd H1 D (.lst []))) ∧ ∀ i m H, W i m H →
      ((Itk d o kvs).stop i H ∧ Qd H) ∨ ((Itk d o kvs).go i H ∧ ∃ Nx : Hp → Prop, (∀ H', Nx H' → ∃ m', m' < m ∧ W (i + 1) m' H') ∧ ∀ x H', (Itk d o kvs).yld i H x H' → g x (wipe σ vs) H' fun σ2 H2 => wipe σ2 vs = wipe σ vs ∧ tt σ2 H2 fun b H3 =>
        if b = true then te σ2 H3 fun y H4 => ∃ acc, H4 D = some (.lst acc) ∧ acc.length < sizeLine ∧ Nx (upd H4 D (.lst (acc ++ [y]))) else Nx H3) := by
  refine ⟨fun i m H => m = kvs.length - i ∧ i ≤ kvs.length ∧ Pv i H, ⟨kvs.length, by simp, Nat.zero_le _, h0⟩, ?_⟩
  rintro i m H ⟨rfl, hi, p⟩
  have q := hl i H hi p
  by_cases hlt : i < kvs.length
  · refine .inr ⟨⟨q, hlt⟩, Pv (i + 1), fun H' p' => ⟨kvs.length - (i + 1), by omega, rfl, hlt, p'⟩, fun x H' y => ?_⟩
    obtain ⟨rfl, k, v, e, rfl⟩ := y
    exact hs i k v _ e p
  · obtain rfl : i = kvs.length := by omega
    exact .inl ⟨⟨q, Nat.le_refl _⟩, hd H p⟩
/-- the pairs of moment and thing -/
def pairs (l : List (Nat × Option Nat)) : List (List Int) := l.filterMap fun q => q.2.map fun (w : Nat) => [(w : Int), (q.1 : Int)]
theorem pairs_snoc (l : List (Nat × Option Nat)) (q : Nat × Option Nat) : pairs (l ++ [q]) = pairs l ++ (q.2.map fun (w : Nat) => [(w : Int), (q.1 : Int)]).toList := by
  unfold pairs
  rw [List.filterMap_append, List.filterMap_cons, List.filterMap_nil]
  cases q.2 <;> rfl
theorem mem_pairs {l : List (Nat × Option Nat)} {x : List Int} : x ∈ pairs l ↔ ∃ n w : Nat, (n, some w) ∈ l ∧ x = [(w : Int), (n : Int)] := by
  unfold pairs
  rw [List.mem_filterMap]
  constructor
  · rintro ⟨⟨n, o⟩, h, e⟩
    cases o with
    | none => cases e
    | some w => exact ⟨n, w, h, (Option.some.inj e).symm⟩
  · rintro ⟨n, w, h, rfl⟩
    exact ⟨(n, some w), h, rfl⟩
theorem pairs_len (l : List (Nat × Option Nat)) : (pairs l).length ≤ l.length := List.length_filterMap_le _ _
/-- tuples at addresses -/
structure Tups (H0 H : Hp) (D : Addr) (ts : List Addr) (xs : List (List Int)) : Prop where
  len : ts.length = xs.length
  at_ : ∀ (i : Nat) (t : Addr) (x : List Int), ts[i]? = some t → xs[i]? = some x → H t = some (.tup (x.map V.int))
  new : ∀ t ∈ ts, H0 t = none ∧ t ≠ D
section
variable {P : Program} {w : World} {K : PySem.W.Frag} {mg : Str → Option Value} {base : Heap} {A : Adr} {pt : Addr}
theorem ok_tell_next (T : Txt K mg A) (D : DefIn K mg "tell_next" s_tell_next ["office"]) (c_moments_of_going : Callee P w K mg base "moments_of_going" 3 ["office"] (spMoments A pt)) : Callee P w K mg base "tell_next" 4 ["office"] (spTell0 A pt .next) := by
  refine Callee.of D sc_tell_next (fun vs H Q E h => ?_) (fun f cdv Ar outer sh H vs Q E hr h => ?_)
  · obtain ⟨_, _, _, _, _, _, rfl, _⟩ := h
    rfl
  · obtain ⟨L, s, R, W, St, tb, rfl, q⟩ := h
    refine ⟨_, (pss_cons (ps_set (i := 1) sc_tell_next.nd rfl (by first | exact Or.inl rfl | exact Or.inr rfl) (pe_callC c_moments_of_going (hr.mono (by decide)) rfl (pa_cons (pv 0) pa_nil)))
      (pss_cons (ps_lock (ps_setLc (i := 2) rfl sc_tell_next.nd rfl rfl rfl (pi_keys (pv 1)) (blkOk_by (own := [("x", 3)]) rfl) (fun _ _ _ _ _ => (pg_name (i := 3) sc_tell_next.nd rfl (by first | exact Or.inl rfl | exact Or.inr rfl))) (fun _ _ _ _ _ => (pts_one (pt_cmp (pc_notN (pe_dget (hu_of hr) (pv 1) (pv 3) (fun _ _ => rfl)))))) (fun _ _ _ _ _ => (pe_tup (pa_cons (pe_dget (hu_of hr) (pv 1) (pv 3) (fun _ _ => rfl)) (pa_cons (pv 3) pa_nil))))))
      (pss_cons (ps_if (pt_cmpR op_eq (pe_callB call_len_seq rfl T.b_len bt_len (pa_cons (pv 2) pa_nil)) pe_int (nomark _)) (pss_one (ps_ret (pe_tup (pa_cons pe_int (pa_cons (pe_lst pa_nil) pa_nil))))) pss_nil)
      (pss_cons (ps_set (i := 4) sc_tell_next.nd rfl (by first | exact Or.inl rfl | exact Or.inr rfl) (pe_callB (KL.cr_minT hr) rfl T.b_min bt_min (pa_cons (pv 2) pa_nil)))
      (pss_one (ps_ret (pe_tup (pa_cons pe_int (pa_cons (pe_lst (pa_cons (pe_ix ix_tup (pv 4) pe_int (fun _ _ => rfl)) (pa_cons (pe_ix ix_tup (pv 4) pe_int (fun _ _ => rfl)) pa_nil))) pa_nil))))))))), ?_⟩
    refine ⟨_, rfl, L, s, R, W, St, rfl, tb, tb.out R, fun H1 p l S1 tb1 hp hpl nd hk wh => ?_⟩
    have R1 := R.sameX (tb.out R) S1
    have F1 : FrX pt H L H1 L := FrX.same S1
    have es : Keep.step s .next = (s, match s.next with
      | none => Keep.says 1
      | some q => Keep.tells 0 [q.1, q.2]) := rfl
    rw [es] at q
    have ll : l.length ≤ 256 := by
      have := KM.nodup_le s.things.length _ nd fun n hn => KM.here_lt ((hk n).mp hn)
      rw [List.length_map] at this
      exact Nat.le_trans this W.nth
    -- going = [...]
    refine ⟨p, _, hpl, trivial, fun od => ?_⟩
    refine ⟨_, rfl, p, od, rfl, .inl ⟨_, upd_same, fun g hg => ?_⟩⟩
    have gp : g ≠ p := fun z => by rw [z, upd_same] at hg; cases hg
    have hg1 : H1 g = none := by rw [upd_ne gp] at hg; exact hg
    refine lc_keys (kvs := mp (mo l)) (o := od) (d := p) (fun i H' => Same (upd H1 p (.frz od (.dK (mp (mo l))))) H' ∧ ∃ ts : List Addr, H' g = some (.lst (ts.map V.ref)) ∧ Tups H1 H' g ts (pairs (l.take i))) ⟨sameNew (Same.refl _) hg, [], upd_same, rfl, fun i t x h => by simp at h, fun t h => by simp at h⟩ (fun i H' _ ⟨S, _⟩ => S _ _ upd_same) (fun i k v H' hi ⟨S, ts, hts, tu⟩ => ?_) (fun H2 ⟨S2, ts, hts, tu⟩ => ?_)
    · obtain ⟨n, o, hl⟩ : ∃ n o, l[i]? = some (n, o) ∧ k = Sum.inl (n : Int) ∧ v = oV o := by
        unfold mp mo at hi
        rw [List.getElem?_map, List.getElem?_map] at hi
        cases z : l[i]? with
        | none => rw [z] at hi; cases hi
        | some b =>
          rw [z] at hi
          injection hi with hi
          injection hi with h1 h2
          exact ⟨b.1, b.2, rfl, h1.symm, h2.symm⟩
      obtain ⟨hl, rfl, rfl⟩ := hl
      have hv : valV (mp (mo l)) (Sum.inl (n : Int)) = some (oV o) := by
        rw [mp_val]
        exact lookup_mem (by rw [mo_keys]; exact nd) (List.mem_map.mpr ⟨(n, o), List.mem_of_getElem? hl, rfl⟩)
      have hd : ∀ H3, Same (upd H1 p (.frz od (.dK (mp (mo l))))) H3 → DGet H3 p (.int n) (some (oV o)) := fun H3 S3 => by
        rw [← hv]
        exact .inl ⟨_, Sum.inl (n : Int), .inr ⟨od, S3 _ _ upd_same⟩, rfl, rfl⟩
      have es := pairs_snoc (l.take i) (n, o)
      rw [← take_succ hl] at es
      refine ⟨rfl, _, rfl, _, rfl, p, oV o, rfl, hd H' S, _, rfl, ?_⟩
      cases o with
      | none =>
        refine iteF ⟨S, ts, hts, ?_⟩
        rw [es]
        show Tups H1 H' g ts (pairs (l.take i) ++ [])
        rw [List.append_nil]
        exact tu
      | some w =>
        refine iteT ⟨_, rfl, _, rfl, p, oV (some w), rfl, hd H' S, _, rfl, (by show 2 ≤ sizeLine; decide), fun t ht => ?_⟩
        have tg : g ≠ t := ne_of_none hts ht
        have t0 : upd H1 p (.frz od (.dK (mp (mo l)))) t = none := S.free ht
        have tp : t ≠ p := fun z => by rw [z, upd_same] at t0; cases t0
        have t1 : H1 t = none := by rw [upd_ne tp] at t0; exact t0
        have lt : ts.length ≤ 256 := by rw [tu.len]; exact Nat.le_trans (pairs_len _) (Nat.le_trans (List.length_take_le' _ _) ll)
        refine ⟨_, by rw [upd_ne tg]; exact hts, by rw [List.length_map]; exact size256 lt, sameNew (sameNew S t0) hg, ts ++ [t], by rw [upd_same, List.map_append]; rfl, ?_⟩
        rw [es]
        refine ⟨by rw [List.length_append, List.length_append, tu.len]; rfl, fun j t' x h1 h2 => ?_, fun t' h => ?_⟩
        · have tt : t ∉ ts := fun z => by
            obtain ⟨j, hj, e⟩ := List.getElem_of_mem z
            have := tu.at_ j t _ (by rw [List.getElem?_eq_getElem hj, e]) (List.getElem?_eq_getElem (by rw [← tu.len]; exact hj))
            rw [ht] at this
            cases this
          rcases get_snoc h1 with ⟨e1, rfl⟩ | ⟨l1, e1⟩
          · rcases get_snoc h2 with ⟨e2, rfl⟩ | ⟨l2, e2⟩
            · rw [upd_ne tg.symm, upd_same]; rfl
            · have := tu.len; omega
          · rcases get_snoc h2 with ⟨e2, rfl⟩ | ⟨l2, e2⟩
            · have := tu.len; omega
            · have m := List.mem_of_getElem? e1
              rw [upd_ne (tu.new t' m).2, upd_ne (fun z => tt (by rw [← z]; exact m))]
              exact tu.at_ j t' x e1 e2
        · rcases List.mem_append.mp h with z | z
          · exact tu.new t' z
          · rw [List.mem_singleton.mp z]; exact ⟨t1, tg.symm⟩
    · have el : (mp (mo l)).length = l.length := by rw [mp_len]; unfold mo; simp
      rw [el, List.take_length] at tu
      refine ⟨S2 _ _ upd_same, ?_⟩
      have S3 : Same H1 (upd H2 p (.dK (mp (mo l)))) := fun b o e => by
        by_cases c : b = p
        · rw [c, upd_same, ← hpl, ← c]; exact e
        · rw [upd_ne c]
          exact S2 b o (by rw [upd_ne c]; exact e)
      have hg3 : upd H2 p (.dK (mp (mo l))) g = some (.lst (ts.map V.ref)) := by rw [upd_ne gp]; exact hts
      have tu3 : ∀ (i : Nat) (t : Addr) (x : List Int), ts[i]? = some t → (pairs l)[i]? = some x → upd H2 p (.dK (mp (mo l))) t = some (.tup (x.map V.int)) := fun i t x h1 h2 => by
        rw [upd_ne (fun z => by have := (tu.new t (List.mem_of_getElem? h1)).1; rw [z, hpl] at this; cases this)]
        exact tu.at_ i t x h1 h2
      generalize upd H2 p (.dK (mp (mo l))) = H3 at S3 hg3 tu3
      have R3 := R1.same S3
      have F3 : FrX pt H L H3 L := F1.trans (FrX.same fun b o _ e => S3 b o e)
      have tb3 := tb1.same S3
      refine ⟨_, rfl, g, _, rfl, .inl (SqL.of hg3), rfl, _, rfl, ?_⟩
      rw [List.length_map, tu.len]
      refine ite2 (fun c => ?_) (fun c => ?_)
      · have c' : pairs l = [] := by
          have := V.int.inj (of_decide_eq_true c)
          exact List.length_eq_zero_iff.mp (by omega)
        have en : s.next = none := KM.next_none fun x w hx hw => by
          obtain ⟨o, ho, _⟩ := mo_get nd ((hk x).mpr hx)
          have := (wh _ ho).unique hw
          have : [(w : Int), (x : Int)] ∈ pairs l := mem_pairs.mpr ⟨x, w, by rw [← this]; exact ho, rfl⟩
          rw [c'] at this
          simp at this
        rw [en] at q
        exact ⟨Nat.zero_le _, fun lp hl => ⟨(by show 2 ≤ sizeLine; decide), fun tp ht => q.nil R3 F3 tb3 rfl hl ht⟩⟩
      · have c' : 0 < (pairs l).length := by
          rcases Nat.eq_zero_or_pos (pairs l).length with z | z
          · exact absurd (decide_eq_true (by rw [z]; rfl)) c
          · exact z
        refine ⟨_, rfl, g, ts, pairs l, rfl, SqL.of hg3, tu.len, (by rw [tu.len]; exact c'), tu3, fun i t x h1 h2 hmin => ?_⟩
        obtain ⟨n, w, hnw, rfl⟩ := mem_pairs.mp (List.mem_of_getElem? h2)
        have hn : s.here n = true := (hk n).mp (List.mem_map.mpr ⟨_, hnw, rfl⟩)
        have en : s.next = some (n, w) := KM.next_some hn (wh _ hnw) fun y u hy hu => by
          obtain ⟨o, ho, _⟩ := mo_get nd ((hk y).mpr hy)
          have eo := (wh _ ho).unique hu
          have := hmin _ (mem_pairs.mpr ⟨y, u, by rw [← eo]; exact ho, rfl⟩)
          rw [HT.lexLt_cons, HT.lexLt_cons] at this
          by_cases e1 : (u : Int) = (w : Int)
          · rw [if_pos e1] at this
            by_cases e2 : (y : Int) = (n : Int)
            · exact .inr ⟨by omega, by omega⟩
            · rw [if_neg e2] at this
              have := of_decide_eq_false this
              exact .inr ⟨by omega, by omega⟩
          · rw [if_neg e1] at this
            have := of_decide_eq_false this
            exact .inl (by omega)
        rw [en] at q
        have ht := tu3 i t _ h1 h2
        refine ⟨_, rfl, t, _, _, _, rfl, rfl, SqT.of ht, atI_nat (j := 1) rfl, _, rfl, t, _, _, _, rfl, rfl, SqT.of ht, atI_nat (j := 0) rfl, (by show 2 ≤ sizeLine; decide), fun lp hl => ⟨(by show 2 ≤ sizeLine; decide), fun tp h3 => q.at R3 F3 tb3 rfl hl h3⟩⟩
end
end KB

set_option Elab.async false
set_option linter.all false
set_option autoImplicit false
set_option maxRecDepth 100000
set_option maxHeartbeats 2000000
namespace KB
open PySem PySem.Spec PyProof.Rows L2
theorem eqT {a b : Int} {P Q : Prop} (h : a = b) (p : P) : if decide (V.int a = V.int b) = true then P else Q := by rw [if_pos (decide_eq_true (by rw [h]))]; exact p
theorem eqF {a b : Int} {P Q : Prop} (h : a ≠ b) (q : Q) : if decide (V.int a = V.int b) = true then P else Q := by rw [if_neg (fun z => h (V.int.inj (of_decide_eq_true z)))]; exact q
/-! ### what a call does behind its moment -/
theorem wf_actFile {c : Nat} {l : List Nat} {z : Keep.State} (hz : KM.Wf z) : KM.Wf (actFile c l z).1 ∧ (actFile c l z).1.now = z.now := by
  unfold actFile
  split
  · exact ⟨hz, rfl⟩
  · rename_i h1
    unfold Keep.NEEDS at h1
    split
    · exact ⟨hz, rfl⟩
    · rename_i h2
      cases e : z.classes[c]? with
      | none => exact ⟨hz, rfl⟩
      | some x =>
        dsimp only
        split
        · exact ⟨hz, rfl⟩
        · rename_i h3
          split
          · exact ⟨hz, rfl⟩
          · rename_i h4
            unfold Keep.THINGS at h4
            refine ⟨KM.wf_file hz (by omega) (List.getElem?_eq_some_iff.mp e).1 (by show l.length ≤ 16; omega) (KM.rising_iff.mp (by simpa using h2)) (fun y hy => ?_) rfl, rfl⟩
            have h3' : l.all z.here = true := by simpa using h3
            exact List.all_eq_true.mp h3' y hy
theorem wf_actNeed {x y : Nat} {z : Keep.State} (hz : KM.Wf z) : KM.Wf (actNeed x y z).1 ∧ (actNeed x y z).1.now = z.now := by
  unfold actNeed
  cases e : z.thing x with
  | none => exact ⟨hz, rfl⟩
  | some t =>
    dsimp only
    split
    · exact ⟨hz, rfl⟩
    · rename_i h1
      split
      · exact ⟨hz, rfl⟩
      · rename_i h2
        split
        · exact ⟨hz, rfl⟩
        · rename_i h3
          unfold Keep.NEEDS at h3
          have o := hz.th x t e
          have hy : z.here y = true := by
            cases q : z.here y with
            | true => rfl
            | false => exact absurd (.inr q) h1
          have h2' : y ∉ t.needs := by rw [List.contains_iff_mem] at h2; exact h2
          refine ⟨KM.wf_set (t := t) hz e rfl rfl ?_ ?_ ?_ ?_, rfl⟩
          · show (Keep.joined t.needs [y]).length ≤ 16
            rw [KM.len_joined1 h2']
            omega
          · exact KM.ris_joined (KM.rising_nodup o.ris) (by simp)
          · intro a ha
            rcases KM.mem_joined.mp ha with q | q
            · exact o.lt a q
            · rw [List.mem_singleton.mp q]; exact KM.here_lt hy
          · intro g a ha
            rcases KM.mem_joined.mp ha with q | q
            · exact o.here g a q
            · rw [List.mem_singleton.mp q]; exact hy
theorem wf_actMatter {t c : List Nat} {z : Keep.State} (hz : KM.Wf z) : KM.Wf (actMatter t c z).1 ∧ (actMatter t c z).1.now = z.now := by
  unfold actMatter
  cases e : z.names t c with
  | some a => exact ⟨hz, rfl⟩
  | none =>
    dsimp only
    split
    · exact ⟨hz, rfl⟩
    · rename_i h1
      unfold Keep.MATTERS at h1
      obtain ⟨n1, n2, n3, n4, n5, n6⟩ := KM.names_none e
      refine ⟨KM.wf_matters hz (by simp; omega) fun a ha => ?_, rfl⟩
      rcases List.mem_append.mp ha with q | q
      · exact hz.mt a q
      · rw [List.mem_singleton.mp q]
        exact ⟨n3, n4, fun x hx => KM.here_lt (n5 x hx), n6⟩
theorem wf_actMore {i : Nat} {t c : List Nat} {z : Keep.State} (hz : KM.Wf z) : KM.Wf (actMore i t c z).1 ∧ (actMore i t c z).1.now = z.now := by
  unfold actMore
  cases e : z.names t c with
  | some a => exact ⟨hz, rfl⟩
  | none =>
    dsimp only
    cases e2 : z.matters[i]? with
    | none => exact ⟨hz, rfl⟩
    | some x =>
      dsimp only
      split
      · exact ⟨hz, rfl⟩
      · obtain ⟨n1, n2, n3, n4, n5, n6⟩ := KM.names_none e
        obtain ⟨o1, o2, o3, o4⟩ := hz.mt x (List.mem_of_getElem? e2)
        refine ⟨KM.wf_matters hz (by rw [List.length_set]; exact hz.nma) fun a ha => ?_, rfl⟩
        rcases KM.mem_set ha with q | q
        · exact hz.mt a q
        · rw [q]
          refine ⟨KM.nodup_joined o1 n3, KM.nodup_joined o2 n4, fun y hy => ?_, fun y hy => ?_⟩
          · rcases KM.mem_joined.mp hy with q | q
            · exact o3 y q
            · exact KM.here_lt (n5 y q)
          · rcases KM.mem_joined.mp hy with q | q
            · exact o4 y q
            · exact n6 y q
theorem wf_actRelease {i : Nat} {z : Keep.State} (hz : KM.Wf z) : KM.Wf (actRelease i z).1 ∧ (actRelease i z).1.now = z.now := by
  unfold actRelease
  cases e2 : z.matters[i]? with
  | none => exact ⟨hz, rfl⟩
  | some x =>
    dsimp only
    split
    · exact ⟨hz, rfl⟩
    · refine ⟨KM.wf_matters hz (by rw [List.length_set]; exact hz.nma) fun a ha => ?_, rfl⟩
      rcases KM.mem_set ha with q | q
      · exact hz.mt a q
      · rw [q]
        exact hz.mt x (List.mem_of_getElem? e2)
theorem wf_actAsk {x : Nat} {z : Keep.State} (hz : KM.Wf z) : KM.Wf (actAsk x z).1 ∧ (actAsk x z).1.now = z.now := by
  unfold actAsk
  cases e : z.thing x with
  | none => exact ⟨hz, rfl⟩
  | some t =>
    dsimp only
    split
    · exact ⟨hz, rfl⟩
    · split
      · exact ⟨hz, rfl⟩
      · have o := hz.th x t e
        exact ⟨KM.wf_set (t := t) hz e rfl rfl o.few o.ris o.lt o.here, rfl⟩
/-- a call with a moment: its number, its numbers behind the moment, its lists, what it does -/
inductive Act : Nat → List Nat → List (List Nat) → (Nat → Keep.Call) → (Keep.State → Keep.State × Keep.Answer) → Prop
  | file (c : Nat) (l : List Nat) : l.length ≤ 300 → Act 2 [c] [l] (fun m => .file m c l) (actFile c l)
  | need (x y : Nat) : Act 3 [x, y] [] (fun m => .need m x y) (actNeed x y)
  | matter (t c : List Nat) : t.length ≤ 300 → c.length ≤ 300 → Act 4 [] [t, c] (fun m => .matter m t c) (actMatter t c)
  | more (n : Nat) (t c : List Nat) : t.length ≤ 300 → c.length ≤ 300 → Act 5 [n] [t, c] (fun m => .more m n t c) (actMore n t c)
  | release (n : Nat) : Act 6 [n] [] (fun m => .release m n) (actRelease n)
  | ask (x : Nat) : Act 7 [x] [] (fun m => .ask m x) (actAsk x)
theorem Act.wf {c : Nat} {ns : List Nat} {rs : List (List Nat)} {k : Nat → Keep.Call} {f : Keep.State → Keep.State × Keep.Answer} (a : Act c ns rs k f) {z : Keep.State} (hz : KM.Wf z) : KM.Wf (f z).1 ∧ (f z).1.now = z.now := by
  cases a with
  | file => exact wf_actFile hz
  | need => exact wf_actNeed hz
  | matter => exact wf_actMatter hz
  | more => exact wf_actMore hz
  | release => exact wf_actRelease hz
  | ask => exact wf_actAsk hz
theorem Act.late {c : Nat} {ns : List Nat} {rs : List (List Nat)} {k : Nat → Keep.Call} {f : Keep.State → Keep.State × Keep.Answer} (a : Act c ns rs k f) {s : Keep.State} {m : Nat} {x : Keep.Answer} (h : s.late m = some x) : Keep.step s (k m) = (s, x) := by
  cases a <;> (dsimp only [Keep.step]; unfold Keep.at_; rw [h])
theorem Act.step {c : Nat} {ns : List Nat} {rs : List (List Nat)} {k : Nat → Keep.Call} {f : Keep.State → Keep.State × Keep.Answer} (a : Act c ns rs k f) {s : Keep.State} {m : Nat} (h : s.late m = none) : Keep.step s (k m) = ((f (s.letGo m)).1.letGo m, (f (s.letGo m)).2) := by
  have pos : ∀ n : Nat, ¬ ((n : Int) < 0) := fun n => by omega
  cases a with
  | file c l =>
    dsimp only [Keep.step]
    refine (KM.at_eq h fun z => ?_).trans rfl
    split
    · exact fun _ => rfl
    · split
      · exact fun _ => rfl
      · split
        · exact fun _ => rfl
        · split
          · exact fun _ => rfl
          · split
            · exact fun _ => rfl
            · exact fun h => absurd h (pos _)
  | need x y =>
    dsimp only [Keep.step]
    refine (KM.at_eq h fun z => ?_).trans rfl
    split
    · exact fun _ => rfl
    · split
      · exact fun _ => rfl
      · split
        · exact fun _ => rfl
        · split
          · exact fun _ => rfl
          · exact fun h => absurd h (pos 0)
  | matter t c =>
    dsimp only [Keep.step]
    refine (KM.at_eq h fun z => ?_).trans rfl
    split
    · exact fun _ => rfl
    · split
      · exact fun _ => rfl
      · exact fun h => absurd h (pos _)
  | more n t c =>
    dsimp only [Keep.step]
    refine (KM.at_eq h fun z => ?_).trans rfl
    split
    · exact fun _ => rfl
    · split
      · exact fun _ => rfl
      · split
        · exact fun _ => rfl
        · exact fun h => absurd h (pos 0)
  | release n =>
    dsimp only [Keep.step]
    refine (KM.at_eq h fun z => ?_).trans rfl
    split
    · exact fun _ => rfl
    · split
      · exact fun _ => rfl
      · exact fun h => absurd h (pos 0)
  | ask x =>
    dsimp only [Keep.step]
    refine (KM.at_eq h fun z => ?_).trans rfl
    split
    · exact fun _ => rfl
    · split
      · exact fun _ => rfl
      · split
        · exact fun _ => rfl
        · exact fun h => absurd h (pos 0)
theorem names_nums {s : Keep.State} {t c : List Nat} {a : Keep.Answer} (h : s.names t c = some a) : a.nums = [] ∧ a.bytes = [] := by
  unfold Keep.State.names at h
  split at h
  · cases h; exact ⟨rfl, rfl⟩
  · split at h
    · cases h; exact ⟨rfl, rfl⟩
    · split at h
      · cases h
      · cases h; exact ⟨rfl, rfl⟩
theorem Act.nums {c : Nat} {ns : List Nat} {rs : List (List Nat)} {k : Nat → Keep.Call} {f : Keep.State → Keep.State × Keep.Answer} (a : Act c ns rs k f) (z : Keep.State) : (f z).2.nums = [] ∧ (f z).2.bytes = [] := by
  cases a with
  | file c l =>
    unfold actFile
    split
    · exact ⟨rfl, rfl⟩
    · split
      · exact ⟨rfl, rfl⟩
      · split
        · exact ⟨rfl, rfl⟩
        · split
          · exact ⟨rfl, rfl⟩
          · split
            · exact ⟨rfl, rfl⟩
            · exact ⟨rfl, rfl⟩
  | need x y =>
    unfold actNeed
    split
    · exact ⟨rfl, rfl⟩
    · split
      · exact ⟨rfl, rfl⟩
      · split
        · exact ⟨rfl, rfl⟩
        · split
          · exact ⟨rfl, rfl⟩
          · exact ⟨rfl, rfl⟩
  | matter t c =>
    unfold actMatter
    split
    · rename_i e; exact names_nums e
    · split
      · exact ⟨rfl, rfl⟩
      · exact ⟨rfl, rfl⟩
  | more n t c =>
    unfold actMore
    split
    · rename_i e; exact names_nums e
    · split
      · exact ⟨rfl, rfl⟩
      · split
        · exact ⟨rfl, rfl⟩
        · exact ⟨rfl, rfl⟩
  | release n =>
    unfold actRelease
    split
    · exact ⟨rfl, rfl⟩
    · split
      · exact ⟨rfl, rfl⟩
      · exact ⟨rfl, rfl⟩
  | ask x =>
    unfold actAsk
    split
    · exact ⟨rfl, rfl⟩
    · split
      · exact ⟨rfl, rfl⟩
      · split
        · exact ⟨rfl, rfl⟩
        · exact ⟨rfl, rfl⟩
/-- lists at addresses -/
structure RowsN (H : Hp) (qs : List Addr) (xs : List (List Nat)) : Prop where
  len : qs.length = xs.length
  at_ : ∀ (i : Nat) (q : Addr) (x : List Nat), qs[i]? = some q → xs[i]? = some x → H q = some (.lst (vints x))
theorem RowsN.one {H : Hp} {qs : List Addr} {x : List Nat} (r : RowsN H qs [x]) : ∃ q, qs = [q] ∧ H q = some (.lst (vints x)) := by
  match qs, r.len, r.at_ with
  | [q], _, h => exact ⟨q, rfl, h 0 q x rfl rfl⟩
theorem RowsN.two {H : Hp} {qs : List Addr} {x y : List Nat} (r : RowsN H qs [x, y]) : ∃ q p, qs = [q, p] ∧ H q = some (.lst (vints x)) ∧ H p = some (.lst (vints y)) := by
  match qs, r.len, r.at_ with
  | [q, p], _, h => exact ⟨q, p, rfl, h 0 q x rfl rfl, h 1 p y rfl rfl⟩
section
variable {P : Program} {w : World} {K : PySem.W.Frag} {mg : Str → Option Value} {base : Heap} {A : Adr} {pt : Addr}
/-! ### act -/
def spAct (A : Adr) (K : PySem.W.Frag) : Sp := fun vs H Q _ => ∃ L s nb rb qs c ns rs k f, Rep A H L s ∧ KM.Wf s ∧ Act c ns rs k f ∧ vs = [.ref (L.a .off), .int (c : Nat), .ref nb, .ref rb] ∧ H nb = some (.lst (vints ns)) ∧ H rb = some (.lst (qs.map V.ref)) ∧ RowsN H qs rs ∧ Aft A H L (f s).1 (f s).2.ret Q
theorem ok_act (T : Txt K mg A) (D : DefIn K mg "act" s_act ["office", "call", "numbers", "rows"]) (c_file_thing : Callee P w K mg base "file_thing" 3 ["office", "which", "needs"] (spFile A K)) (c_add_need : Callee P w K mg base "add_need" 2 ["office", "x", "y"] (spNeed A))
    (c_make_matter : Callee P w K mg base "make_matter" 4 ["office", "things", "classes"] (spMatter A K)) (c_name_more : Callee P w K mg base "name_more" 4 ["office", "number", "things", "classes"] (spMore A K)) (c_release_matter : Callee P w K mg base "release_matter" 2 ["office", "number"] (spRelease A))
    (c_ask_thing : Callee P w K mg base "ask_thing" 1 ["office", "x"] (spAsk A)) : Callee P w K mg base "act" 5 ["office", "call", "numbers", "rows"] (spAct A K) := by
  refine Callee.of D sc_act (fun vs H Q E h => ?_) (fun f cdv Ar outer sh H vs Q E hr h => ?_)
  · obtain ⟨_, _, _, _, _, _, _, _, _, _, _, _, _, rfl, _⟩ := h
    rfl
  · obtain ⟨L, s, nb, rb, qs, c, ns, rs, k, f, R, W, a, rfl, hn, hb, hrs, q⟩ := h
    refine ⟨_, (pss_cons (ps_if (pt_cmpR op_eq (pv 1) (pe_globI rfl T.g_FILE) (nomark _)) (pss_one (ps_ret (pe_callC c_file_thing (hr.mono (by decide)) rfl (pa_cons (pv 0) (pa_cons (pe_ix ix_list (pv 2) pe_int (fun _ _ => rfl)) (pa_cons (pe_ix ix_list (pv 3) pe_int (fun _ _ => rfl)) pa_nil)))))) pss_nil)
      (pss_cons (ps_if (pt_cmpR op_eq (pv 1) (pe_globI rfl T.g_NEED) (nomark _)) (pss_one (ps_ret (pe_callC c_add_need (hr.mono (by decide)) rfl (pa_cons (pv 0) (pa_cons (pe_ix ix_list (pv 2) pe_int (fun _ _ => rfl)) (pa_cons (pe_ix ix_list (pv 2) pe_int (fun _ _ => rfl)) pa_nil)))))) pss_nil)
      (pss_cons (ps_if (pt_cmpR op_eq (pv 1) (pe_globI rfl T.g_MATTER) (nomark _)) (pss_one (ps_ret (pe_callC c_make_matter (hr.mono (by decide)) rfl (pa_cons (pv 0) (pa_cons (pe_ix ix_list (pv 3) pe_int (fun _ _ => rfl)) (pa_cons (pe_ix ix_list (pv 3) pe_int (fun _ _ => rfl)) pa_nil)))))) pss_nil)
      (pss_cons (ps_if (pt_cmpR op_eq (pv 1) (pe_globI rfl T.g_MORE) (nomark _)) (pss_one (ps_ret (pe_callC c_name_more (hr.mono (by decide)) rfl (pa_cons (pv 0) (pa_cons (pe_ix ix_list (pv 2) pe_int (fun _ _ => rfl)) (pa_cons (pe_ix ix_list (pv 3) pe_int (fun _ _ => rfl)) (pa_cons (pe_ix ix_list (pv 3) pe_int (fun _ _ => rfl)) pa_nil))))))) pss_nil)
      (pss_cons (ps_if (pt_cmpR op_eq (pv 1) (pe_globI rfl T.g_RELEASE) (nomark _)) (pss_one (ps_ret (pe_callC c_release_matter (hr.mono (by decide)) rfl (pa_cons (pv 0) (pa_cons (pe_ix ix_list (pv 2) pe_int (fun _ _ => rfl)) pa_nil))))) pss_nil)
      (pss_one (ps_ret (pe_callC c_ask_thing (hr.mono (by decide)) rfl (pa_cons (pv 0) (pa_cons (pe_ix ix_list (pv 2) pe_int (fun _ _ => rfl)) pa_nil)))))))))), ?_⟩
    cases a with
    | file c l hl =>
      obtain ⟨q0, rfl, h0⟩ := hrs.one
      refine ⟨_, rfl, rfl, _, rfl, eqT rfl ⟨_, rfl, _, rfl, nb, _, _, _, rfl, rfl, SqL.of hn, atI_nat (j := 0) rfl, _, rfl, rb, _, _, _, rfl, rfl, SqL.of hb, atI_nat (j := 0) rfl, L, s, q0, c, l, R, W, rfl, SqL.of h0, hl, q⟩⟩
    | need x y =>
      refine ⟨_, rfl, rfl, _, rfl, eqF (by decide) ⟨_, rfl, rfl, _, rfl, eqT rfl ⟨_, rfl, _, rfl, nb, _, _, _, rfl, rfl, SqL.of hn, atI_nat (j := 0) rfl, _, rfl, nb, _, _, _, rfl, rfl, SqL.of hn, atI_nat (j := 1) rfl, L, s, x, y, R, W, rfl, q⟩⟩⟩
    | matter t c h1 h2 =>
      obtain ⟨q0, q1, rfl, g0, g1⟩ := hrs.two
      refine ⟨_, rfl, rfl, _, rfl, eqF (by decide) ⟨_, rfl, rfl, _, rfl, eqF (by decide) ⟨_, rfl, rfl, _, rfl, eqT rfl ⟨_, rfl, _, rfl, rb, _, _, _, rfl, rfl, SqL.of hb, atI_nat (j := 0) rfl, _, rfl, rb, _, _, _, rfl, rfl, SqL.of hb, atI_nat (j := 1) rfl, L, s, q0, q1, t, c, R, W, rfl, SqL.of g0, SqL.of g1, h1, h2, q⟩⟩⟩⟩
    | more n t c h1 h2 =>
      obtain ⟨q0, q1, rfl, g0, g1⟩ := hrs.two
      refine ⟨_, rfl, rfl, _, rfl, eqF (by decide) ⟨_, rfl, rfl, _, rfl, eqF (by decide) ⟨_, rfl, rfl, _, rfl, eqF (by decide) ⟨_, rfl, rfl, _, rfl, eqT rfl ⟨_, rfl, _, rfl, nb, _, _, _, rfl, rfl, SqL.of hn, atI_nat (j := 0) rfl, _, rfl, rb, _, _, _, rfl, rfl, SqL.of hb, atI_nat (j := 0) rfl, _, rfl, rb, _, _, _, rfl, rfl, SqL.of hb, atI_nat (j := 1) rfl, L, s, q0, q1, n, t, c, R, W, rfl, SqL.of g0, SqL.of g1, h1, h2, q⟩⟩⟩⟩⟩
    | release n =>
      refine ⟨_, rfl, rfl, _, rfl, eqF (by decide) ⟨_, rfl, rfl, _, rfl, eqF (by decide) ⟨_, rfl, rfl, _, rfl, eqF (by decide) ⟨_, rfl, rfl, _, rfl, eqF (by decide) ⟨_, rfl, rfl, _, rfl, eqT rfl ⟨_, rfl, _, rfl, nb, _, _, _, rfl, rfl, SqL.of hn, atI_nat (j := 0) rfl, L, s, n, R, W, rfl, q⟩⟩⟩⟩⟩⟩
    | ask x =>
      refine ⟨_, rfl, rfl, _, rfl, eqF (by decide) ⟨_, rfl, rfl, _, rfl, eqF (by decide) ⟨_, rfl, rfl, _, rfl, eqF (by decide) ⟨_, rfl, rfl, _, rfl, eqF (by decide) ⟨_, rfl, rfl, _, rfl, eqF (by decide) ⟨_, rfl, _, rfl, nb, _, _, _, rfl, rfl, SqL.of hn, atI_nat (j := 0) rfl, L, s, x, R, W, rfl, q⟩⟩⟩⟩⟩⟩
end
end KB

set_option Elab.async false
set_option linter.all false
set_option autoImplicit false
set_option maxRecDepth 100000
set_option maxHeartbeats 2000000
namespace KB
open PySem PySem.Spec PyProof.Rows L2
theorem wf_now {s : Keep.State} {m : Nat} (W : KM.Wf s) (h1 : m < 2 ^ 40) (h2 : s.now ≤ m) : KM.Wf { s with now := m } :=
  ⟨h1, W.ncl, W.nth, W.nma, fun x t e => let o := W.th x t e; ⟨o.cls, o.few, o.ris, o.lt, o.here, fun g hg => Nat.le_trans (o.gone g hg) h2⟩, W.mt, W.kp, W.wn, W.wl, W.wg⟩
theorem marked_now (s : Keep.State) (m : Nat) : ∀ (f : Nat) (l : List Nat) (w : List Bool), Keep.State.marked { s with now := m } f l w = Keep.State.marked s f l w
  | 0, _, _ => rfl
  | _ + 1, [], _ => rfl
  | f + 1, y :: r, w => by
    unfold Keep.State.marked
    by_cases c : w.getD y true = true
    · rw [if_pos c, if_pos c]; exact marked_now s m f r w
    · rw [if_neg c, if_neg c]; exact marked_now s m f _ _
theorem keptNow_now (s : Keep.State) (m k : Nat) : Keep.State.keptNow { s with now := m } k = s.keptNow k := by
  unfold Keep.State.keptNow
  dsimp only
  rw [marked_now]
  rfl
theorem letGo_at (s : Keep.State) (m k : Nat) : Keep.State.letGo { s with now := m } k = s.letGo k := by
  unfold Keep.State.letGo
  rw [keptNow_now]
  rfl
theorem goes_at (s : Keep.State) (m k : Nat) : KM.goes { s with now := m } k = KM.goes s k := by
  unfold KM.goes
  rw [keptNow_now]
  rfl
/-- a call with a moment -/
inductive Mom : Nat → List Nat → List (List Nat) → Keep.Call → Prop
  | act {c : Nat} {ns : List Nat} {rs : List (List Nat)} {k : Nat → Keep.Call} {f : Keep.State → Keep.State × Keep.Answer} (m : Nat) : Act c ns rs k f → Mom c (m :: ns) rs (k m)
  | tick (m : Nat) : Mom 8 [m] [] (.tick m)
theorem Mom.late {c : Nat} {ns : List Nat} {rs : List (List Nat)} {k : Keep.Call} (a : Mom c ns rs k) : ∃ m ns', ns = m :: ns' ∧ ∀ s x, s.late m = some x → Keep.step s k = (s, x) := by
  cases a with
  | act m a => exact ⟨m, _, rfl, fun s x h => a.late h⟩
  | tick m => exact ⟨m, _, rfl, fun s x h => by dsimp only [Keep.step]; rw [h]⟩
theorem goes_drop (s : Keep.State) (m : Nat) : ((s.letGo m).went.drop s.went.length).map (fun (q : Nat × Nat) => q.1) = KM.goes s m := by
  rw [KM.letGo_eq]
  show ((s.went ++ (KM.goes s m).map fun (x : Nat) => (x, m)).drop s.went.length).map _ = _
  rw [List.drop_left, List.map_map]
  exact List.map_id' _
section
variable {P : Program} {w : World} {K : PySem.W.Frag} {mg : Str → Option Value} {base : Heap} {A : Adr} {pt : Addr}
def spAtMoment (A : Adr) (pt : Addr) : Sp := fun vs H Q _ => ∃ L s nb rb qs c ns rs k, Rep A H L s ∧ KM.Wf s ∧ Tab pt H ∧ Mom c ns rs k ∧ vs = [.ref (L.a .off), .int (c : Nat), .ref nb, .ref rb] ∧ H nb = some (.lst (vints ns)) ∧ L.g nb = .out ∧ H rb = some (.lst (qs.map V.ref)) ∧ L.g rb = .out ∧ RowsN H qs rs ∧ (∀ q ∈ qs, L.g q = .out) ∧ Told A pt H L (Keep.step s k).1 (Keep.step s k).2 Q
theorem RowsN.fr {H H' : Hp} {L L' : Lo} {qs : List Addr} {xs : List (List Nat)} (r : RowsN H qs xs) (hq : ∀ q ∈ qs, L.g q = .out) (F : Fr H L H' L') : RowsN H' qs xs := ⟨r.len, fun i q x h1 h2 => (F q _ (r.at_ i q x h1 h2) (hq q (List.mem_of_getElem? h1))).1⟩
theorem Act.ne {c : Nat} {ns : List Nat} {rs : List (List Nat)} {k : Nat → Keep.Call} {f : Keep.State → Keep.State × Keep.Answer} (a : Act c ns rs k f) : ((c : Nat) : Int) ≠ 8 := by cases a <;> decide
theorem ok_act_at_moment (T : Txt K mg A) (D : DefIn K mg "act_at_moment" s_act_at_moment ["office", "call", "numbers", "rows"]) (c_let_go : Callee P w K mg base "let_go" 4 ["office"] (spLetGo A)) (c_act : Callee P w K mg base "act" 5 ["office", "call", "numbers", "rows"] (spAct A K)) : Callee P w K mg base "act_at_moment" 6 ["office", "call", "numbers", "rows"] (spAtMoment A pt) := by
  refine Callee.of D sc_act_at_moment (fun vs H Q E h => ?_) (fun f cdv Ar outer sh H vs Q E hr h => ?_)
  · obtain ⟨_, _, _, _, _, _, _, _, _, _, _, _, _, rfl, _⟩ := h
    rfl
  · obtain ⟨L, s, nb, rb, qs, c, ns, rs, k, R, W, tb, mo, rfl, hn, gn, hb, gb, hrs, gq, q⟩ := h
    obtain ⟨dx, ho⟩ := R.off
    obtain ⟨m, ns', rfl, hlate⟩ := mo.late
    refine ⟨_, (pss_cons (ps_set (i := 4) sc_act_at_moment.nd rfl (by first | exact Or.inl rfl | exact Or.inr rfl) (pe_ix ix_list (pv 2) pe_int (fun _ _ => rfl)))
      (pss_cons (ps_if (pt_cmpR op_ge (pv 4) (pe_globI rfl T.g_MOMENT_LIMIT) (nomark _)) (pss_one (ps_ret (pe_tup (pa_cons (pe_globI rfl T.g_WRONG) (pa_cons (pe_lst pa_nil) pa_nil))))) pss_nil)
      (pss_cons (ps_if (pt_cmpR op_lt (pv 4) (pe_fld (pv 0) rfl) (nomark _)) (pss_one (ps_ret (pe_tup (pa_cons (pe_globI rfl T.g_BELOW_LAST) (pa_cons (pe_lst pa_nil) pa_nil))))) pss_nil)
      (pss_cons (ps_fld (pv 0) (pv 4) rfl)
      (pss_cons (ps_set (i := 5) sc_act_at_moment.nd rfl (by first | exact Or.inl rfl | exact Or.inr rfl) (pe_callC c_let_go (hr.mono (by decide)) rfl (pa_cons (pv 0) pa_nil)))
      (pss_cons (ps_if (pt_cmpR op_eq (pv 1) (pe_globI rfl T.g_TICK) (nomark _)) (pss_one (ps_ret (pe_tup (pa_cons (pe_callB call_len_seq rfl T.b_len bt_len (pa_cons (pv 5) pa_nil)) (pa_cons (pv 5) pa_nil))))) pss_nil)
      (pss_cons (ps_set (i := 6) sc_act_at_moment.nd rfl (by first | exact Or.inl rfl | exact Or.inr rfl) (pe_callC c_act (hr.mono (by decide)) rfl (pa_cons (pv 0) (pa_cons (pv 1) (pa_cons (pe_slice sl_list (pv 2) (po_some pe_int) po_none) (pa_cons (pv 3) pa_nil))))))
      (pss_cons (ps_expr (pe_callC c_let_go (hr.mono (by decide)) rfl (pa_cons (pv 0) pa_nil)))
      (pss_one (ps_ret (pe_tup (pa_cons (pv 6) (pa_cons (pe_lst pa_nil) pa_nil))))))))))))), ?_⟩
    refine ⟨_, rfl, nb, _, _, _, rfl, rfl, SqL.of hn, atI_nat (j := 0) rfl, ?_⟩
    refine ⟨_, rfl, _, _, rfl, rfl, _, rfl, ite2 (fun c1 => ?_) (fun c1 => ?_)⟩
    · have e := hlate s (Keep.says (-1)) (by unfold Keep.State.late Keep.MOMENT; rw [if_pos (by have := of_decide_eq_true c1; omega)])
      rw [e] at q
      exact ⟨Nat.zero_le _, fun lp hl => ⟨(by show 2 ≤ sizeLine; decide), fun tp ht => q.nil R (FrX.refl _ _ _) tb rfl hl ht⟩⟩
    · have h1 : m < 2 ^ 40 := by
        rcases Nat.lt_or_ge m (2 ^ 40) with z | z
        · exact z
        · exact absurd (decide_eq_true (by omega)) c1
      refine ⟨_, rfl, _, rfl, _, _, dx, _, _, rfl, ho, T.cl_Office, T.n_Office_moment, rfl, _, _, rfl, rfl, _, rfl, ite2 (fun c2 => ?_) (fun c2 => ?_)⟩
      · have e := hlate s (Keep.says (-5)) (by unfold Keep.State.late Keep.MOMENT; rw [if_neg (by omega), if_pos (by have := of_decide_eq_true c2; omega)])
        rw [e] at q
        exact ⟨Nat.zero_le _, fun lp hl => ⟨(by show 2 ≤ sizeLine; decide), fun tp ht => q.nil R (FrX.refl _ _ _) tb rfl hl ht⟩⟩
      · have h2 : s.now ≤ m := by
          rcases Nat.lt_or_ge m s.now with z | z
          · exact absurd (decide_eq_true (by omega)) c2
          · exact z
        have late : s.late m = none := by unfold Keep.State.late Keep.MOMENT; rw [if_neg (by omega), if_neg (by omega)]
        -- office.moment = moment
        refine ⟨_, rfl, _, rfl, _, _, dx, _, rfl, ho, T.cl_Office, T.n_Office_moment, (by show 5 < 1000; decide), ?_⟩
        have R1 := R.setNow (dx := dx) (m := m)
        have F1 : Fr H L (upd H (L.a .off) (.ins A.Office dx (fOff m (L.a .cl) (L.a .th) (L.a .ma) (L.a .go)))) L := R.frAt (g := .off) trivial
        have W1 := wf_now W h1 h2
        -- went = let_go(office)
        refine ⟨_, rfl, L, { s with now := m }, R1, W1, rfl, fun H2 g R2 F2 hg gg hg0 => ?_⟩
        have R2 : Rep A H2 L (s.letGo m) := by rw [← letGo_at s m m]; exact R2
        have hg : H2 g = some (.lst (vints (KM.goes s m))) := by rw [← goes_at s m m]; exact hg
        have F12 := F1.trans F2
        have tb2 := tb.fr R F12
        have hn2 := (F12 nb _ hn gn).1
        have hb2 := (F12 rb _ hb gb).1
        have hrs2 := hrs.fr gq F12
        cases mo with
        | tick m =>
          refine ⟨_, rfl, rfl, _, rfl, eqT rfl ⟨_, rfl, g, _, rfl, .inl (SqL.of hg), _, rfl, (by show 2 ≤ sizeLine; decide), fun tp ht => ?_⟩⟩
          have e : Keep.step s (.tick m) = (s.letGo m, Keep.tells ((KM.goes s m).length : Nat) (KM.goes s m)) := by
            dsimp only [Keep.step]
            rw [late]
            dsimp only
            rw [goes_drop]
          rw [e] at q
          rw [vints_len]
          exact q.lay (lp := g) R2 (FrX.of F12) tb2 hg ht
        | act m a =>
          refine ⟨_, rfl, rfl, _, rfl, eqF a.ne ?_⟩
          -- number = act(office, call, numbers[1:], rows)
          have e := a.step late
          rw [e] at q
          have W2 : KM.Wf (s.letGo m) := KM.wf_letGo W h1 h2
          obtain ⟨W3, n3⟩ := a.wf W2
          obtain ⟨nu, by_⟩ := a.nums (s.letGo m)
          refine ⟨_, rfl, _, rfl, _, rfl, _, rfl, nb, _, rfl, SqL.of hn2, fun p hp => ?_⟩
          have ec : cutV (vints (m :: ns')) (some 1) none = vints ns' := by
            unfold cutV
            rw [show (some (1 : Int)) = some ((1 : Nat) : Int) from rfl, HT.sIx_nat]
            show ((vints (m :: ns')).drop (min 1 (vints (m :: ns')).length)).take ((vints (m :: ns')).length - min 1 (vints (m :: ns')).length) = _
            rw [vints_len, List.length_cons, Nat.min_eq_left (by omega)]
            show (vints ns').take (ns'.length + 1 - 1) = _
            rw [Nat.add_sub_cancel, ← vints_len ns', List.take_length]
          rw [ec]
          refine ⟨_, rfl, L, s.letGo m, p, rb, qs, c, ns', rs, _, _, R2.new hp, W2, a, rfl, upd_same, (by rw [upd_ne (ne_of_none hb2 hp)]; exact hb2), hrs2.fr gq (Fr.new hp), fun H3 L3 R3 F3 e3 => ?_⟩
          have F23 : Fr H L H3 L3 := F12.trans ((Fr.new hp).trans F3)
          have now3 : ∀ z : Keep.State, z.now = m → z.letGo z.now = z.letGo m := fun z hz => by rw [hz]
          -- let_go(office)
          rw [show V.ref (L.a Tag.off) = V.ref (L3.a Tag.off) by rw [e3]]
          refine ⟨_, rfl, L3, _, R3, W3, rfl, fun H4 g4 R4 F4 _ _ _ => ?_⟩
          rw [now3 _ n3] at R4
          have F34 := F23.trans F4
          refine ⟨_, rfl, Nat.zero_le _, fun lp hl => ⟨(by show 2 ≤ sizeLine; decide), fun tp ht => ?_⟩⟩
          exact q _ L3 tp lp e3 ((R4.new hl).new ht) (FrX.of (F34.trans ((Fr.new hl).trans (Fr.new ht)))) (((tb.fr R F34).new hl).new ht) upd_same (by rw [upd_ne (fun z => by rw [← z, upd_same] at ht; cases ht), upd_same, nu]; rfl)
end
end KB

set_option Elab.async false
set_option linter.all false
set_option autoImplicit false
set_option maxRecDepth 100000
set_option maxHeartbeats 2000000
namespace KB
open PySem PySem.Spec PyProof.Rows L2
/-- a call that tells -/
inductive Tel : Nat → List Nat → Keep.Call → Prop
  | thing (x : Nat) : Tel 9 [x] (.thing x)
  | when_ (x : Nat) : Tel 10 [x] (.when_ x)
  | next : Tel 11 [] .next
  | why (x : Nat) : Tel 12 [x] (.why x)
  | went (i : Nat) : Tel 13 [i] (.went i)
  | told : Tel 14 [] .told
theorem Tel.same {c : Nat} {ns : List Nat} {k : Keep.Call} (t : Tel c ns k) (s : Keep.State) : (Keep.step s k).1 = s := by cases t <;> rfl
/-- a call: its number, its whole numbers, its lists -/
inductive One : Nat → List Nat → List (List Nat) → Keep.Call → Prop
  | cls (k e : Nat) : One 0 [k, e] [] (.cls k e)
  | longer (c k : Nat) : One 1 [c, k] [] (.longer c k)
  | mom {c : Nat} {ns : List Nat} {rs : List (List Nat)} {k : Keep.Call} : Mom c ns rs k → One c ns rs k
  | tel {c : Nat} {ns : List Nat} {k : Keep.Call} : Tel c ns k → One c ns [] k
theorem cls_nums (s : Keep.State) (k e : Nat) : (Keep.step s (.cls k e)).2.nums = [] := by
  dsimp only [Keep.step]
  split
  · rfl
  · split <;> rfl
theorem longer_nums (s : Keep.State) (c k : Nat) : (Keep.step s (.longer c k)).2.nums = [] := by
  dsimp only [Keep.step]
  split
  · rfl
  · split <;> rfl
section
variable {P : Program} {w : World} {K : PySem.W.Frag} {mg : Str → Option Value} {base : Heap} {A : Adr} {pt : Addr}
def spTells (A : Adr) (pt : Addr) : Sp := fun vs H Q _ => ∃ L s nb c ns k, Rep A H L s ∧ KM.Wf s ∧ KM.Stable s ∧ Tab pt H ∧ Tel c ns k ∧ vs = [.ref (L.a .off), .int (c : Nat), .ref nb] ∧ H nb = some (.lst (vints ns)) ∧ Told A pt H L s (Keep.step s k).2 Q
theorem ok_tell (T : Txt K mg A) (D : DefIn K mg "tell" s_tell ["office", "call", "numbers"]) (c_tell_thing : Callee P w K mg base "tell_thing" 1 ["office", "x"] (spTell A pt .thing)) (c_tell_when : Callee P w K mg base "tell_when" 4 ["office", "x"] (spTell A pt .when_)) (c_tell_next : Callee P w K mg base "tell_next" 4 ["office"] (spTell0 A pt .next))
    (c_tell_why : Callee P w K mg base "tell_why" 2 ["office", "x"] (spTell A pt .why)) (c_tell_went : Callee P w K mg base "tell_went" 1 ["office", "i"] (spTell A pt .went)) (c_tell_told : Callee P w K mg base "tell_told" 1 ["office"] (spTell0 A pt .told)) : Callee P w K mg base "tell" 5 ["office", "call", "numbers"] (spTells A pt) := by
  refine Callee.of D sc_tell (fun vs H Q E h => ?_) (fun f cdv Ar outer sh H vs Q E hr h => ?_)
  · obtain ⟨_, _, _, _, _, _, _, _, _, _, _, rfl, _⟩ := h
    rfl
  · obtain ⟨L, s, nb, c, ns, k, R, W, St, tb, t, rfl, hn, q⟩ := h
    refine ⟨_, (pss_cons (ps_if (pt_cmpR op_eq (pv 1) (pe_globI rfl T.g_THING) (nomark _)) (pss_one (ps_ret (pe_callC c_tell_thing (hr.mono (by decide)) rfl (pa_cons (pv 0) (pa_cons (pe_ix ix_list (pv 2) pe_int (fun _ _ => rfl)) pa_nil))))) pss_nil)
      (pss_cons (ps_if (pt_cmpR op_eq (pv 1) (pe_globI rfl T.g_WHEN) (nomark _)) (pss_one (ps_ret (pe_callC c_tell_when (hr.mono (by decide)) rfl (pa_cons (pv 0) (pa_cons (pe_ix ix_list (pv 2) pe_int (fun _ _ => rfl)) pa_nil))))) pss_nil)
      (pss_cons (ps_if (pt_cmpR op_eq (pv 1) (pe_globI rfl T.g_NEXT) (nomark _)) (pss_one (ps_ret (pe_callC c_tell_next (hr.mono (by decide)) rfl (pa_cons (pv 0) pa_nil)))) pss_nil)
      (pss_cons (ps_if (pt_cmpR op_eq (pv 1) (pe_globI rfl T.g_WHY) (nomark _)) (pss_one (ps_ret (pe_callC c_tell_why (hr.mono (by decide)) rfl (pa_cons (pv 0) (pa_cons (pe_ix ix_list (pv 2) pe_int (fun _ _ => rfl)) pa_nil))))) pss_nil)
      (pss_cons (ps_if (pt_cmpR op_eq (pv 1) (pe_globI rfl T.g_WENT) (nomark _)) (pss_one (ps_ret (pe_callC c_tell_went (hr.mono (by decide)) rfl (pa_cons (pv 0) (pa_cons (pe_ix ix_list (pv 2) pe_int (fun _ _ => rfl)) pa_nil))))) pss_nil)
      (pss_one (ps_ret (pe_callC c_tell_told (hr.mono (by decide)) rfl (pa_cons (pv 0) pa_nil))))))))), ?_⟩
    cases t with
    | thing x => exact ⟨_, rfl, rfl, _, rfl, eqT rfl ⟨_, rfl, _, rfl, nb, _, _, _, rfl, rfl, SqL.of hn, atI_nat (j := 0) rfl, L, s, x, R, W, St, tb, rfl, q⟩⟩
    | when_ x => exact ⟨_, rfl, rfl, _, rfl, eqF (by decide) ⟨_, rfl, rfl, _, rfl, eqT rfl ⟨_, rfl, _, rfl, nb, _, _, _, rfl, rfl, SqL.of hn, atI_nat (j := 0) rfl, L, s, x, R, W, St, tb, rfl, q⟩⟩⟩
    | next => exact ⟨_, rfl, rfl, _, rfl, eqF (by decide) ⟨_, rfl, rfl, _, rfl, eqF (by decide) ⟨_, rfl, rfl, _, rfl, eqT rfl ⟨_, rfl, L, s, R, W, St, tb, rfl, q⟩⟩⟩⟩
    | why x => exact ⟨_, rfl, rfl, _, rfl, eqF (by decide) ⟨_, rfl, rfl, _, rfl, eqF (by decide) ⟨_, rfl, rfl, _, rfl, eqF (by decide) ⟨_, rfl, rfl, _, rfl, eqT rfl ⟨_, rfl, _, rfl, nb, _, _, _, rfl, rfl, SqL.of hn, atI_nat (j := 0) rfl, L, s, x, R, W, St, tb, rfl, q⟩⟩⟩⟩⟩
    | went i => exact ⟨_, rfl, rfl, _, rfl, eqF (by decide) ⟨_, rfl, rfl, _, rfl, eqF (by decide) ⟨_, rfl, rfl, _, rfl, eqF (by decide) ⟨_, rfl, rfl, _, rfl, eqF (by decide) ⟨_, rfl, rfl, _, rfl, eqT rfl ⟨_, rfl, _, rfl, nb, _, _, _, rfl, rfl, SqL.of hn, atI_nat (j := 0) rfl, L, s, i, R, W, St, tb, rfl, q⟩⟩⟩⟩⟩⟩
    | told => exact ⟨_, rfl, rfl, _, rfl, eqF (by decide) ⟨_, rfl, rfl, _, rfl, eqF (by decide) ⟨_, rfl, rfl, _, rfl, eqF (by decide) ⟨_, rfl, rfl, _, rfl, eqF (by decide) ⟨_, rfl, rfl, _, rfl, eqF (by decide) ⟨_, rfl, L, s, R, W, St, tb, rfl, q⟩⟩⟩⟩⟩⟩
/-! ### answer_call -/
def spAnswer (A : Adr) (pt : Addr) : Sp := fun vs H Q _ => ∃ L s nb rb qs c ns rs k, Rep A H L s ∧ KM.Wf s ∧ KM.Stable s ∧ Tab pt H ∧ One c ns rs k ∧ vs = [.ref (L.a .off), .int (c : Nat), .ref nb, .ref rb] ∧ H nb = some (.lst (vints ns)) ∧ L.g nb = .out ∧ H rb = some (.lst (qs.map V.ref)) ∧ L.g rb = .out ∧ RowsN H qs rs ∧ (∀ q ∈ qs, L.g q = .out) ∧ Told A pt H L (Keep.step s k).1 (Keep.step s k).2 Q
theorem Mom.big {c : Nat} {ns : List Nat} {rs : List (List Nat)} {k : Keep.Call} (a : Mom c ns rs k) : 2 ≤ c ∧ c ≤ 8 := by
  cases a with
  | act m a => cases a <;> decide
  | tick m => decide
theorem Tel.big {c : Nat} {ns : List Nat} {k : Keep.Call} (a : Tel c ns k) : 9 ≤ c := by cases a <;> decide
theorem Told.aft {H H1 : Hp} {L L1 : Lo} {s : Keep.State} {a : Keep.Answer} {Q : VK} {lp tp : Addr} (q : Told A pt H L s a Q) (hn : a.nums = []) (tb : Tab pt H) {s0 : Keep.State} (R : Rep A H L s0) (R1 : Rep A H1 L1 s) (F1 : Fr H L H1 L1) (e1 : L1.a .off = L.a .off) (hl : H1 lp = none) (ht : upd H1 lp (.lst []) tp = none) : Q (.ref tp) (upd (upd H1 lp (.lst [])) tp (.tup [.int a.ret, .ref lp])) :=
  q _ L1 tp lp e1 ((R1.new hl).new ht) (FrX.of (F1.trans ((Fr.new hl).trans (Fr.new ht)))) (((tb.fr R F1).new hl).new ht) upd_same (by rw [upd_ne (fun z => by rw [← z, upd_same] at ht; cases ht), upd_same, hn]; rfl)
theorem ok_answer_call (T : Txt K mg A) (D : DefIn K mg "answer_call" s_answer_call ["office", "call", "numbers", "rows"]) (c_make_class : Callee P w K mg base "make_class" 3 ["office", "keep", "early"] (spMakeClass A)) (c_make_longer : Callee P w K mg base "make_longer" 1 ["office", "which", "keep"] (spLonger A))
    (c_act_at_moment : Callee P w K mg base "act_at_moment" 6 ["office", "call", "numbers", "rows"] (spAtMoment A pt)) (c_tell : Callee P w K mg base "tell" 5 ["office", "call", "numbers"] (spTells A pt)) : Callee P w K mg base "answer_call" 7 ["office", "call", "numbers", "rows"] (spAnswer A pt) := by
  refine Callee.of D sc_answer_call (fun vs H Q E h => ?_) (fun f cdv Ar outer sh H vs Q E hr h => ?_)
  · obtain ⟨_, _, _, _, _, _, _, _, _, _, _, _, _, _, rfl, _⟩ := h
    rfl
  · obtain ⟨L, s, nb, rb, qs, c, ns, rs, k, R, W, St, tb, o, rfl, hn, gn, hb, gb, hrs, gq, q⟩ := h
    refine ⟨_, (pss_cons (ps_if (pt_cmpR op_eq (pv 1) (pe_globI rfl T.g_MAKE_CLASS) (nomark _)) (pss_one (ps_ret (pe_tup (pa_cons (pe_callC c_make_class (hr.mono (by decide)) rfl (pa_cons (pv 0) (pa_cons (pe_ix ix_list (pv 2) pe_int (fun _ _ => rfl)) (pa_cons (pe_ix ix_list (pv 2) pe_int (fun _ _ => rfl)) pa_nil)))) (pa_cons (pe_lst pa_nil) pa_nil))))) pss_nil)
      (pss_cons (ps_if (pt_cmpR op_eq (pv 1) (pe_globI rfl T.g_LONGER) (nomark _)) (pss_one (ps_ret (pe_tup (pa_cons (pe_callC c_make_longer (hr.mono (by decide)) rfl (pa_cons (pv 0) (pa_cons (pe_ix ix_list (pv 2) pe_int (fun _ _ => rfl)) (pa_cons (pe_ix ix_list (pv 2) pe_int (fun _ _ => rfl)) pa_nil)))) (pa_cons (pe_lst pa_nil) pa_nil))))) pss_nil)
      (pss_cons (ps_if (pt_cmpR op_le (pv 1) (pe_globI rfl T.g_TICK) (nomark _)) (pss_one (ps_ret (pe_callC c_act_at_moment (hr.mono (by decide)) rfl (pa_cons (pv 0) (pa_cons (pv 1) (pa_cons (pv 2) (pa_cons (pv 3) pa_nil))))))) pss_nil)
      (pss_one (ps_ret (pe_callC c_tell (hr.mono (by decide)) rfl (pa_cons (pv 0) (pa_cons (pv 1) (pa_cons (pv 2) pa_nil))))))))), ?_⟩
    cases o with
    | cls k e =>
      refine ⟨_, rfl, rfl, _, rfl, eqT rfl ⟨_, rfl, _, rfl, nb, _, _, _, rfl, rfl, SqL.of hn, atI_nat (j := 0) rfl, _, rfl, nb, _, _, _, rfl, rfl, SqL.of hn, atI_nat (j := 1) rfl, L, s, k, e, R, W, rfl, fun H1 L1 R1 F1 e1 => ?_⟩⟩
      exact ⟨Nat.zero_le _, fun lp hl => ⟨(by show 2 ≤ sizeLine; decide), fun tp ht => q.aft (cls_nums s k e) tb R R1 F1 e1 hl ht⟩⟩
    | longer c k =>
      refine ⟨_, rfl, rfl, _, rfl, eqF (by decide) ⟨_, rfl, rfl, _, rfl, eqT rfl ⟨_, rfl, _, rfl, nb, _, _, _, rfl, rfl, SqL.of hn, atI_nat (j := 0) rfl, _, rfl, nb, _, _, _, rfl, rfl, SqL.of hn, atI_nat (j := 1) rfl, L, s, c, k, R, W, rfl, fun H1 L1 R1 F1 e1 => ?_⟩⟩⟩
      exact ⟨Nat.zero_le _, fun lp hl => ⟨(by show 2 ≤ sizeLine; decide), fun tp ht => q.aft (longer_nums s c k) tb R R1 F1 e1 hl ht⟩⟩
    | mom m =>
      obtain ⟨b1, b2⟩ := m.big
      refine ⟨_, rfl, rfl, _, rfl, eqF (by omega) ⟨_, rfl, rfl, _, rfl, eqF (by omega) ⟨_, rfl, _, _, rfl, rfl, _, rfl, ite2 (fun c1 => ?_) (fun c1 => absurd (decide_eq_true (by omega)) c1)⟩⟩⟩
      exact ⟨_, rfl, _, rfl, _, rfl, _, rfl, L, s, nb, rb, qs, c, ns, rs, k, R, W, tb, m, rfl, hn, gn, hb, gb, hrs, gq, q⟩
    | tel t =>
      have b1 := t.big
      refine ⟨_, rfl, rfl, _, rfl, eqF (by omega) ⟨_, rfl, rfl, _, rfl, eqF (by omega) ⟨_, rfl, _, _, rfl, rfl, _, rfl, ite2 (fun c1 => absurd (of_decide_eq_true c1) (by omega)) (fun c1 => ?_)⟩⟩⟩
      rw [t.same s] at q
      exact ⟨_, rfl, _, rfl, _, rfl, L, s, nb, c, ns, k, R, W, St, tb, t, rfl, hn, q⟩
end
end KB

set_option Elab.async false
set_option linter.all false
set_option autoImplicit false
set_option maxRecDepth 100000
set_option maxHeartbeats 2000000
namespace KB
open PySem PySem.Spec PyProof.Rows L2
/-! ### which call stands at a place -/
def shapeN (c : Nat) : Nat × Nat := [(2, 0), (2, 0), (2, 1), (3, 0), (1, 2), (2, 2), (2, 0), (2, 0), (1, 0), (1, 0), (1, 0), (0, 0), (1, 0), (1, 0), (0, 0)].getD c (0, 0)
def toI (l : List Nat) : List Int := l.map fun (n : Nat) => (n : Int)
theorem nat_of {z : Int} (h : KeepNeutral.natural z 64 = true) : z = (z.toNat : Int) := by
  unfold KeepNeutral.natural at h
  rw [Bool.and_eq_true] at h
  have := of_decide_eq_true h.1
  omega
theorem nats_of {r : List Int} (h : r.all (fun (z : Int) => KeepNeutral.natural z 64) = true) : r = toI (KeepNeutral.nats r) := by
  unfold toI KeepNeutral.nats
  rw [List.map_map]
  refine ((List.map_congr_left fun z hz => ?_).trans (List.map_id r)).symm
  exact (nat_of (List.all_eq_true.mp h z hz)).symm
theorem one_list {α : Type} {l : List α} (h : l.length = 1) : ∃ a, l = [a] := by
  match l, h with
  | [a], _ => exact ⟨a, rfl⟩
theorem two_list {α : Type} {l : List α} (h : l.length = 2) : ∃ a b, l = [a, b] := by
  match l, h with
  | [a, b], _ => exact ⟨a, b, rfl⟩
theorem three_list {α : Type} {l : List α} (h : l.length = 3) : ∃ a b c, l = [a, b, c] := by
  match l, h with
  | [a, b, c], _ => exact ⟨a, b, c, rfl⟩
theorem four_list {α : Type} {l : List α} (h : l.length = 4) : ∃ a b c d, l = [a, b, c, d] := by
  match l, h with
  | [a, b, c, d], _ => exact ⟨a, b, c, d, rfl⟩
theorem five_list {α : Type} {l : List α} (h : l.length = 5) : ∃ a b c d e, l = [a, b, c, d, e] := by
  match l, h with
  | [a, b, c, d, e], _ => exact ⟨a, b, c, d, e, rfl⟩
theorem nil_list {α : Type} {l : List α} (h : l.length = 0) : l = [] := List.length_eq_zero_iff.mp h
/-- one call, read -/
structure Read (p : Int) (nums : List Int) (xs : List (List Int)) (n k c : Nat) (ns : List Nat) (rs : List (List Nat)) (K : Keep.Call) : Prop where
  hp : p = (c : Int)
  lt : c < 15
  sh : shapeN c = (n, k)
  hn : nums = toI ns
  hr : xs = rs.map toI
  one : One c ns rs K
  call : KeepNeutral.callOf (PyWrkeep.whole ((p :: nums) :: xs)) = some K
theorem read_of {p : Int} {nums : List Int} {xs : List (List Int)} {n k : Nat} (hs : PyWrkeep.shape p = some (n, k)) (hl : nums.length = n) (hx : xs.length = k) (hb : PyInside.call PyWrkeep.bound ((p :: nums) :: xs) = true) (ha : KeepNeutral.asked1 (PyWrkeep.whole ((p :: nums) :: xs)) = true) : ∃ c ns rs K, Read p nums xs n k c ns rs K := by
  unfold PyWrkeep.shape at hs
  by_cases e0 : p = 0
  · subst e0
    rw [if_pos rfl] at hs; cases hs
    obtain ⟨a, b, rfl⟩ := two_list hl
    obtain rfl := nil_list hx
    have ha : (KeepNeutral.natural a 64 && KeepNeutral.natural b 64) = true := ha
    rw [Bool.and_eq_true] at ha
    exact ⟨0, [a.toNat, b.toNat], [], _, rfl, by decide, rfl, by rw [nat_of ha.1, nat_of ha.2]; rfl, rfl, .cls _ _, rfl⟩
  rw [if_neg e0] at hs
  by_cases e1 : p = 1
  · subst e1
    rw [if_pos rfl] at hs; cases hs
    obtain ⟨a, b, rfl⟩ := two_list hl
    obtain rfl := nil_list hx
    have ha : (KeepNeutral.natural a 64 && KeepNeutral.natural b 64) = true := ha
    rw [Bool.and_eq_true] at ha
    exact ⟨1, [a.toNat, b.toNat], [], _, rfl, by decide, rfl, by rw [nat_of ha.1, nat_of ha.2]; rfl, rfl, .longer _ _, rfl⟩
  rw [if_neg e1] at hs
  by_cases e2 : p = 2
  · subst e2
    rw [if_pos rfl] at hs; cases hs
    obtain ⟨a, b, rfl⟩ := two_list hl
    obtain ⟨r, rfl⟩ := one_list hx
    have ha : (KeepNeutral.natural a 64 && KeepNeutral.natural b 64 && r.all (fun (z : Int) => KeepNeutral.natural z 64)) = true := ha
    rw [Bool.and_eq_true, Bool.and_eq_true] at ha
    have hb : (PyInside.each _ [a, b] && (decide (0 ≤ r.length) && decide (r.length ≤ 300) && r.all _ && PyInside.lists [] [])) = true := hb
    rw [Bool.and_eq_true, Bool.and_eq_true, Bool.and_eq_true, Bool.and_eq_true] at hb
    have hr := of_decide_eq_true hb.2.1.1.2
    refine ⟨2, [a.toNat, b.toNat], [KeepNeutral.nats r], _, rfl, by decide, rfl, by rw [nat_of ha.1.1, nat_of ha.1.2]; rfl, by rw [List.map_cons, List.map_nil, ← nats_of ha.2], .mom (.act _ (.file _ _ ?_)), rfl⟩
    · unfold KeepNeutral.nats; rw [List.length_map]; exact hr
  rw [if_neg e2] at hs
  by_cases e3 : p = 3
  · subst e3
    rw [if_pos rfl] at hs; cases hs
    obtain ⟨a, b, d, rfl⟩ := three_list hl
    obtain rfl := nil_list hx
    have ha : (KeepNeutral.natural a 64 && KeepNeutral.natural b 64 && KeepNeutral.natural d 64) = true := ha
    rw [Bool.and_eq_true, Bool.and_eq_true] at ha
    exact ⟨3, [a.toNat, b.toNat, d.toNat], [], _, rfl, by decide, rfl, by rw [nat_of ha.1.1, nat_of ha.1.2, nat_of ha.2]; rfl, rfl, .mom (.act _ (.need _ _)), rfl⟩
  rw [if_neg e3] at hs
  by_cases e4 : p = 4
  · subst e4
    rw [if_pos rfl] at hs; cases hs
    obtain ⟨a, rfl⟩ := one_list hl
    obtain ⟨r, u, rfl⟩ := two_list hx
    have ha : (KeepNeutral.natural a 64 && r.all (fun (z : Int) => KeepNeutral.natural z 64) && u.all (fun (z : Int) => KeepNeutral.natural z 64)) = true := ha
    rw [Bool.and_eq_true, Bool.and_eq_true] at ha
    have hb : (PyInside.each _ [a] && (decide (0 ≤ r.length) && decide (r.length ≤ 300) && r.all _ && (decide (0 ≤ u.length) && decide (u.length ≤ 300) && u.all _ && PyInside.lists [] []))) = true := hb
    rw [Bool.and_eq_true, Bool.and_eq_true, Bool.and_eq_true, Bool.and_eq_true, Bool.and_eq_true, Bool.and_eq_true, Bool.and_eq_true] at hb
    have hr := of_decide_eq_true hb.2.1.1.2
    have hu := of_decide_eq_true hb.2.2.1.1.2
    refine ⟨4, [a.toNat], [KeepNeutral.nats r, KeepNeutral.nats u], _, rfl, by decide, rfl, by rw [nat_of ha.1.1]; rfl, by rw [List.map_cons, List.map_cons, List.map_nil, ← nats_of ha.1.2, ← nats_of ha.2], .mom (.act _ (.matter _ _ ?_ ?_)), rfl⟩
    · unfold KeepNeutral.nats; rw [List.length_map]; exact hr
    · unfold KeepNeutral.nats; rw [List.length_map]; exact hu
  rw [if_neg e4] at hs
  by_cases e5 : p = 5
  · subst e5
    rw [if_pos rfl] at hs; cases hs
    obtain ⟨a, b, rfl⟩ := two_list hl
    obtain ⟨r, u, rfl⟩ := two_list hx
    have ha : (KeepNeutral.natural a 64 && KeepNeutral.natural b 64 && r.all (fun (z : Int) => KeepNeutral.natural z 64) && u.all (fun (z : Int) => KeepNeutral.natural z 64)) = true := ha
    rw [Bool.and_eq_true, Bool.and_eq_true, Bool.and_eq_true] at ha
    have hb : (PyInside.each _ [a, b] && (decide (0 ≤ r.length) && decide (r.length ≤ 300) && r.all _ && (decide (0 ≤ u.length) && decide (u.length ≤ 300) && u.all _ && PyInside.lists [] []))) = true := hb
    rw [Bool.and_eq_true, Bool.and_eq_true, Bool.and_eq_true, Bool.and_eq_true, Bool.and_eq_true, Bool.and_eq_true, Bool.and_eq_true] at hb
    have hr := of_decide_eq_true hb.2.1.1.2
    have hu := of_decide_eq_true hb.2.2.1.1.2
    refine ⟨5, [a.toNat, b.toNat], [KeepNeutral.nats r, KeepNeutral.nats u], _, rfl, by decide, rfl, by rw [nat_of ha.1.1.1, nat_of ha.1.1.2]; rfl, by rw [List.map_cons, List.map_cons, List.map_nil, ← nats_of ha.1.2, ← nats_of ha.2], .mom (.act _ (.more _ _ _ ?_ ?_)), rfl⟩
    · unfold KeepNeutral.nats; rw [List.length_map]; exact hr
    · unfold KeepNeutral.nats; rw [List.length_map]; exact hu
  rw [if_neg e5] at hs
  by_cases e6 : p = 6
  · subst e6
    rw [if_pos rfl] at hs; cases hs
    obtain ⟨a, b, rfl⟩ := two_list hl
    obtain rfl := nil_list hx
    have ha : (KeepNeutral.natural a 64 && KeepNeutral.natural b 64) = true := ha
    rw [Bool.and_eq_true] at ha
    exact ⟨6, [a.toNat, b.toNat], [], _, rfl, by decide, rfl, by rw [nat_of ha.1, nat_of ha.2]; rfl, rfl, .mom (.act _ (.release _)), rfl⟩
  rw [if_neg e6] at hs
  by_cases e7 : p = 7
  · subst e7
    rw [if_pos rfl] at hs; cases hs
    obtain ⟨a, b, rfl⟩ := two_list hl
    obtain rfl := nil_list hx
    have ha : (KeepNeutral.natural a 64 && KeepNeutral.natural b 64) = true := ha
    rw [Bool.and_eq_true] at ha
    exact ⟨7, [a.toNat, b.toNat], [], _, rfl, by decide, rfl, by rw [nat_of ha.1, nat_of ha.2]; rfl, rfl, .mom (.act _ (.ask _)), rfl⟩
  rw [if_neg e7] at hs
  by_cases e8 : p = 8
  · subst e8
    rw [if_pos rfl] at hs; cases hs
    obtain ⟨a, rfl⟩ := one_list hl
    obtain rfl := nil_list hx
    have ha : (KeepNeutral.natural a 64) = true := ha
    exact ⟨8, [a.toNat], [], _, rfl, by decide, rfl, by rw [nat_of ha]; rfl, rfl, .mom (.tick _), rfl⟩
  rw [if_neg e8] at hs
  by_cases e9 : p = 9
  · subst e9
    rw [if_pos rfl] at hs; cases hs
    obtain ⟨a, rfl⟩ := one_list hl
    obtain rfl := nil_list hx
    have ha : (KeepNeutral.natural a 64) = true := ha
    exact ⟨9, [a.toNat], [], _, rfl, by decide, rfl, by rw [nat_of ha]; rfl, rfl, .tel (.thing _), rfl⟩
  rw [if_neg e9] at hs
  by_cases e10 : p = 10
  · subst e10
    rw [if_pos rfl] at hs; cases hs
    obtain ⟨a, rfl⟩ := one_list hl
    obtain rfl := nil_list hx
    have ha : (KeepNeutral.natural a 64) = true := ha
    exact ⟨10, [a.toNat], [], _, rfl, by decide, rfl, by rw [nat_of ha]; rfl, rfl, .tel (.when_ _), rfl⟩
  rw [if_neg e10] at hs
  by_cases e11 : p = 11
  · subst e11
    rw [if_pos rfl] at hs; cases hs
    obtain rfl := nil_list hl
    obtain rfl := nil_list hx
    exact ⟨11, [], [], _, rfl, by decide, rfl, rfl, rfl, .tel .next, rfl⟩
  rw [if_neg e11] at hs
  by_cases e12 : p = 12
  · subst e12
    rw [if_pos rfl] at hs; cases hs
    obtain ⟨a, rfl⟩ := one_list hl
    obtain rfl := nil_list hx
    have ha : (KeepNeutral.natural a 64) = true := ha
    exact ⟨12, [a.toNat], [], _, rfl, by decide, rfl, by rw [nat_of ha]; rfl, rfl, .tel (.why _), rfl⟩
  rw [if_neg e12] at hs
  by_cases e13 : p = 13
  · subst e13
    rw [if_pos rfl] at hs; cases hs
    obtain ⟨a, rfl⟩ := one_list hl
    obtain rfl := nil_list hx
    have ha : (KeepNeutral.natural a 64) = true := ha
    exact ⟨13, [a.toNat], [], _, rfl, by decide, rfl, by rw [nat_of ha]; rfl, rfl, .tel (.went _), rfl⟩
  rw [if_neg e13] at hs
  by_cases e14 : p = 14
  · subst e14
    rw [if_pos rfl] at hs; cases hs
    obtain rfl := nil_list hl
    obtain rfl := nil_list hx
    exact ⟨14, [], [], _, rfl, by decide, rfl, rfl, rfl, .tel .told, rfl⟩
  rw [if_neg e14] at hs
  cases hs
theorem Read.step {p : Int} {nums : List Int} {xs : List (List Int)} {n k c : Nat} {ns : List Nat} {rs : List (List Nat)} {K : Keep.Call} (r : Read p nums xs n k c ns rs K) (s : Keep.State) : KeepNeutral.step s (PyWrkeep.whole ((p :: nums) :: xs)) = ((Keep.step s K).1, KeepNeutral.numbersOf (Keep.step s K).2) := by
  unfold KeepNeutral.step
  rw [r.call]
/-! ### an answer's numbers -/
theorem late_says {s : Keep.State} {m : Nat} {a : Keep.Answer} (h : s.late m = some a) : a.nums = [] ∧ a.bytes = [] := by
  unfold Keep.State.late at h
  split at h
  · cases h; exact ⟨rfl, rfl⟩
  · split at h
    · cases h; exact ⟨rfl, rfl⟩
    · cases h
theorem one_ans {c : Nat} {ns : List Nat} {rs : List (List Nat)} {K : Keep.Call} (o : One c ns rs K) {s : Keep.State} (W : KM.Wf s) : (Keep.step s K).2.bytes = [] ∧ (Keep.step s K).2.nums.length ≤ 300 := by
  have nil : ∀ a : Keep.Answer, a.nums = [] ∧ a.bytes = [] → a.bytes = [] ∧ a.nums.length ≤ 300 := fun a h => ⟨h.2, by rw [h.1]; exact Nat.zero_le _⟩
  have nt := W.nth
  cases o with
  | cls k e =>
    refine nil _ ⟨cls_nums s k e, ?_⟩
    dsimp only [Keep.step]
    split
    · rfl
    · split <;> rfl
  | longer c k =>
    refine nil _ ⟨longer_nums s c k, ?_⟩
    dsimp only [Keep.step]
    split
    · rfl
    · split <;> rfl
  | mom m =>
    cases m with
    | act m a =>
      cases e : s.late m with
      | some x => rw [a.late e]; exact nil _ (late_says e)
      | none => rw [a.step e]; exact nil _ (a.nums _)
    | tick m =>
      cases e : s.late m with
      | some x =>
        have : Keep.step s (.tick m) = (s, x) := by dsimp only [Keep.step]; rw [e]
        rw [this]
        exact nil _ (late_says e)
      | none =>
        have : Keep.step s (.tick m) = (s.letGo m, Keep.tells ((KM.goes s m).length : Nat) (KM.goes s m)) := by
          dsimp only [Keep.step]
          rw [e]
          dsimp only
          rw [goes_drop]
        rw [this]
        refine ⟨rfl, Nat.le_trans (goes_len s m) (by omega)⟩
  | tel t =>
    cases t with
    | thing x =>
      dsimp only [Keep.step]
      split
      · exact ⟨rfl, Nat.zero_le _⟩
      · rename_i t e
        refine ⟨rfl, ?_⟩
        have := (W.th x t e).few
        show ([t.cls, t.filed, t.due, t.gone.getD 0] ++ t.needs).length ≤ 300
        rw [List.length_append]
        show 4 + t.needs.length ≤ 300
        omega
    | when_ x =>
      dsimp only [Keep.step]
      split
      · exact ⟨rfl, Nat.zero_le _⟩
      · split
        · exact ⟨rfl, Nat.zero_le _⟩
        · exact ⟨rfl, by show 1 ≤ 300; decide⟩
    | next =>
      dsimp only [Keep.step]
      split
      · exact ⟨rfl, Nat.zero_le _⟩
      · exact ⟨rfl, by show 2 ≤ 300; decide⟩
    | why x =>
      dsimp only [Keep.step]
      split
      · exact ⟨rfl, Nat.zero_le _⟩
      · split
        · exact ⟨rfl, Nat.zero_le _⟩
        · split
          · exact ⟨rfl, Nat.zero_le _⟩
          · refine ⟨rfl, ?_⟩
            refine Nat.le_trans (List.length_filter_le _ _) ?_
            rw [List.length_range]
            omega
    | went i =>
      dsimp only [Keep.step]
      split
      · exact ⟨rfl, Nat.zero_le _⟩
      · exact ⟨rfl, by show 2 ≤ 300; decide⟩
    | told => exact ⟨rfl, by show 6 ≤ 300; decide⟩
/-- an answer as it's told: what written gives -/
theorem told_one {a : Keep.Answer} (h : a.bytes = []) : ((KeepNeutral.numbersOf a).length : Int) :: KeepNeutral.numbersOf a = [3 + (a.nums.length : Int), a.ret, 0, (a.nums.length : Int)] ++ toI a.nums := by
  unfold KeepNeutral.numbersOf toI
  rw [h]
  show ((a.ret :: 0 :: ((a.nums.length : Int) :: a.nums.map fun (n : Nat) => (n : Int))).length : Int) :: _ = _
  have e : ((a.ret :: (0 : Int) :: ((a.nums.length : Int) :: a.nums.map fun (n : Nat) => (n : Int))).length : Int) = 3 + (a.nums.length : Int) := by
    simp only [List.length_cons, List.length_map]
    omega
  rw [e]
  rfl
end KB

set_option Elab.async false
set_option linter.all false
set_option autoImplicit false
set_option maxRecDepth 100000
set_option maxHeartbeats 2000000
namespace KB
open PySem PySem.Spec PyProof.Rows L2
/-! ### a new office -/
def lo0 (x c t m g : Addr) : Lo := ⟨fun q => match q with | .cl => c | .th => t | .ma => m | .go => g | _ => x, fun b => if b = x then .off else if b = c then .cl else if b = t then .th else if b = m then .ma else if b = g then .go else .out⟩
theorem Rep.start {A : Adr} {H : Hp} {x dx c t m g : Addr} (hx : H x = some (.ins A.Office dx (fOff 0 c t m g))) (hc : H c = some (.lst [])) (ht : H t = some (.lst [])) (hm : H m = some (.lst [])) (hg : H g = some (.lst [])) (cx : c ≠ x) (tx : t ≠ x) (mx : m ≠ x) (gx : g ≠ x) (tc : t ≠ c) (mc : m ≠ c) (mt : m ≠ t) (gc : g ≠ c) (gt : g ≠ t) (gm : g ≠ m) : Rep A H (lo0 x c t m g) Keep.start := by
  refine ⟨fun q l => ?_, fun q l => ?_, fun b h => ?_⟩
  · cases q with
    | out => exact l.elim
    | off => exact ⟨_, hx, dx, rfl⟩
    | cl => exact ⟨_, hc, rfl⟩
    | th => exact ⟨_, ht, rfl⟩
    | ma => exact ⟨_, hm, rfl⟩
    | go => exact ⟨_, hg, rfl⟩
    | c i => exact absurd (show i < 0 from l) (Nat.not_lt_zero _)
    | t i => exact absurd (show i < 0 from l) (Nat.not_lt_zero _)
    | n i => exact absurd (show i < 0 from l) (Nat.not_lt_zero _)
    | m i => exact absurd (show i < 0 from l) (Nat.not_lt_zero _)
    | mt i => exact absurd (show i < 0 from l) (Nat.not_lt_zero _)
    | mc i => exact absurd (show i < 0 from l) (Nat.not_lt_zero _)
  · cases q with
    | out => exact l.elim
    | off => exact if_pos rfl
    | cl => show (if c = x then Tag.off else if c = c then .cl else _) = _; rw [if_neg cx, if_pos rfl]
    | th => show (if t = x then Tag.off else if t = c then .cl else if t = t then .th else _) = _; rw [if_neg tx, if_neg tc, if_pos rfl]
    | ma => show (if m = x then Tag.off else if m = c then .cl else if m = t then .th else if m = m then .ma else _) = _; rw [if_neg mx, if_neg mc, if_neg mt, if_pos rfl]
    | go => show (if g = x then Tag.off else if g = c then .cl else if g = t then .th else if g = m then .ma else if g = g then .go else _) = _; rw [if_neg gx, if_neg gc, if_neg gt, if_neg gm, if_pos rfl]
    | c i => exact absurd (show i < 0 from l) (Nat.not_lt_zero _)
    | t i => exact absurd (show i < 0 from l) (Nat.not_lt_zero _)
    | n i => exact absurd (show i < 0 from l) (Nat.not_lt_zero _)
    | m i => exact absurd (show i < 0 from l) (Nat.not_lt_zero _)
    | mt i => exact absurd (show i < 0 from l) (Nat.not_lt_zero _)
    | mc i => exact absurd (show i < 0 from l) (Nat.not_lt_zero _)
  · have no : ∀ o, H b = some o → ¬ Outs (some o) → False := fun o e n => n (by rw [← e]; exact h)
    have d : ∀ y o, H y = some o → ¬ Outs (some o) → b ≠ y := fun y o e n z => no o (by rw [z]; exact e) n
    show (if b = x then Tag.off else if b = c then .cl else if b = t then .th else if b = m then .ma else if b = g then .go else .out) = .out
    rw [if_neg (d x _ hx id), if_neg (d c _ hc id), if_neg (d t _ ht id), if_neg (d m _ hm id), if_neg (d g _ hg id)]
/-! ### what was handed in -/
def ArgL (K : PySem.W.Frag) (H : Hp) (L : Lo) (a : Addr) (xs : List V) : Prop := SqL K H a xs ∧ (L.g a = .out ∨ ∀ H', SqL K H' a xs)
theorem ArgL.frx {K : PySem.W.Frag} {H H' : Hp} {L L' : Lo} {a pt : Addr} {xs : List V} (h : ArgL K H L a xs) (tb : Tab pt H) (F : FrX pt H L H' L') : ArgL K H' L' a xs := by
  obtain ⟨h, g⟩ := h
  rcases g with g | g
  · obtain ⟨ps, hp⟩ := tb.some
    rcases h with (h | ⟨o, h⟩) | h
    · obtain ⟨e, g'⟩ := F a _ (by rintro rfl; rw [hp] at h; cases h) h g
      exact ⟨.inl (.inl e), .inl g'⟩
    · obtain ⟨e, g'⟩ := F a _ (by rintro rfl; rw [hp] at h; cases h) h g
      exact ⟨.inl (.inr ⟨o, e⟩), .inl g'⟩
    · exact ⟨.inr h, .inr fun _ => .inr h⟩
  · exact ⟨g H', .inr g⟩
theorem ArgL.upd {K : PySem.W.Frag} {H : Hp} {L : Lo} {a b : Addr} {xs : List V} {o : HO} (h : ArgL K H L a xs) (n : a ≠ b ∨ ∀ H', SqL K H' a xs) : ArgL K (L2.upd H b o) L a xs := by
  obtain ⟨h, g⟩ := h
  rcases n with n | n
  · refine ⟨?_, g⟩
    rcases h with (h | ⟨o', h⟩) | h
    · exact .inl (.inl (by rw [upd_ne n]; exact h))
    · exact .inl (.inr ⟨o', by rw [upd_ne n]; exact h⟩)
    · exact .inr h
  · exact ⟨n _, .inr n⟩
theorem Tab.atL {pt b : Addr} {H : Hp} {l : List V} {o : HO} (t : Tab pt H) (h : H b = Option.some (HO.lst l)) : Tab pt (upd H b o) := by
  obtain ⟨ps, h1, h2, h3⟩ := t
  refine ⟨ps, by rw [upd_ne (by rintro rfl; rw [h] at h1; cases h1)]; exact h1, h2, ?_⟩
  rcases h3 with h3 | ⟨c, h3, h4⟩
  · exact .inl h3
  · exact .inr ⟨c, h3, by rw [upd_ne (by rintro rfl; rw [h] at h4; cases h4)]; exact h4⟩
theorem shp_tup {K : PySem.W.Frag} {mg : Str → Option Value} {A : Adr} (T : Txt K mg A) {c n k : Nat} (h : shapeN c = (n, k)) (hc : c < 15) : TupIn K (A.t_SHAPES_at c) [V.int n, V.int k] := by
  match c, hc, h with
  | 0, _, h => cases h; exact T.tt_SHAPES_0
  | 1, _, h => cases h; exact T.tt_SHAPES_1
  | 2, _, h => cases h; exact T.tt_SHAPES_2
  | 3, _, h => cases h; exact T.tt_SHAPES_3
  | 4, _, h => cases h; exact T.tt_SHAPES_4
  | 5, _, h => cases h; exact T.tt_SHAPES_5
  | 6, _, h => cases h; exact T.tt_SHAPES_6
  | 7, _, h => cases h; exact T.tt_SHAPES_7
  | 8, _, h => cases h; exact T.tt_SHAPES_8
  | 9, _, h => cases h; exact T.tt_SHAPES_9
  | 10, _, h => cases h; exact T.tt_SHAPES_10
  | 11, _, h => cases h; exact T.tt_SHAPES_11
  | 12, _, h => cases h; exact T.tt_SHAPES_12
  | 13, _, h => cases h; exact T.tt_SHAPES_13
  | 14, _, h => cases h; exact T.tt_SHAPES_14
theorem shape_le {c n k : Nat} (h : shapeN c = (n, k)) (hc : c < 15) : k ≤ 2 := by
  have : ∀ i : Fin 15, (shapeN i.1).2 ≤ 2 := by decide
  have := this ⟨c, hc⟩
  rw [h] at this
  exact this
theorem vI_toI (l : List Nat) : vI (toI l) = vints l := by unfold vI toI vints; rw [List.map_map]; rfl
theorem Rows.nat {H : Hp} {qs : List Addr} {xs : List (List Nat)} (r : Rows H qs (xs.map toI)) : RowsN H qs xs :=
  ⟨by rw [r.len, List.length_map], fun i q x h1 h2 => by rw [← vI_toI]; exact r.at_ i q (toI x) h1 (by rw [List.getElem?_map, h2]; rfl)⟩
theorem vI_append (a b : List Int) : vI a ++ vI b = vI (a ++ b) := by unfold vI; rw [List.map_append]
theorem yesT {σ : L2.St} {H : Hp} {A B : Hp → Prop} (h : A H) : tYes σ H (fun b H3 => if b = true then A H3 else B H3) := by
  unfold tYes
  exact iteT h
def lens (xs : List (List Int)) : List Int := xs.map fun x => ((1 + x.length : Nat) : Int)
theorem lens_sum : ∀ xs : List (List Int), (lens xs).sum = (KP.took xs : Int)
  | [] => rfl
  | x :: xs => by
    have ih := lens_sum xs
    unfold lens KP.took at ih ⊢
    rw [List.map_cons, List.sum_cons, ih, List.map_cons, List.sum_cons]
    omega
section
variable {P : Program} {w : World} {K : PySem.W.Frag} {mg : Str → Option Value} {base : Heap} {A : Adr} {pt : Addr}
def spAns (pt : Addr) (K : PySem.W.Frag) : Sp := fun vs H Q _ => ∃ (a : Addr) (ns : List Int), vs = [.ref a] ∧ SqL K H a (ns.map V.int) ∧ ns.length ≤ 16000 ∧ PyWrkeep.answers_asked ns = true ∧ Tab pt H ∧ ∀ (H' : Hp) (p : Addr), H' p = some (.lst ((PyWrkeep.answers ns).map V.int)) → Q (.ref p) H'
/-- what is still to be read -/
def left9 (n : Nat) (σ : L2.St) : Nat := match σ[3]? with
  | some (some (V.int z)) => n - z.toNat
  | _ => 0
/-- between two calls -/
structure Inv9 (A : Adr) (K : PySem.W.Frag) (pt a x gv : Addr) (ns : List Int) (H : Hp) (at_ : Nat) : Prop where
  ex : ∃ L s f cs gl, Rep A H L s ∧ KM.Wf s ∧ KM.Stable s ∧ Tab pt H ∧ ArgL K H L a (vI ns) ∧ H gv = some (.lst (vI gl)) ∧ L.g gv = .out ∧ L.a .off = x ∧ PyFlat.calls PyWrkeep.shape f (ns.drop at_) = some cs ∧ (∀ c ∈ cs, PyInside.call PyWrkeep.bound c = true ∧ KeepNeutral.asked1 (PyWrkeep.whole c) = true) ∧
    gl ++ PyFlat.told (PyFlat.played KeepNeutral.step s (cs.map PyWrkeep.whole)) = PyWrkeep.answers ns ∧ gl.length + 310 * cs.length ≤ 124000
theorem asked_calls {ns : List Int} (h : PyWrkeep.answers_asked ns = true) : ∃ cs, PyFlat.calls PyWrkeep.shape ns.length ns = some cs ∧ cs.length ≤ 400 ∧ (∀ c ∈ cs, PyInside.call PyWrkeep.bound c = true ∧ KeepNeutral.asked1 (PyWrkeep.whole c) = true) ∧ PyWrkeep.answers ns = PyFlat.told (PyFlat.played KeepNeutral.step Keep.start (cs.map PyWrkeep.whole)) := by
  unfold PyWrkeep.answers_asked at h
  cases e : PyFlat.calls PyWrkeep.shape ns.length ns with
  | none => rw [e] at h; cases h
  | some cs =>
    rw [e] at h
    have h : (!cs.isEmpty && PyFlat.atMost 400 cs && PyInside.calls PyWrkeep.bound cs && KeepNeutral.asked (cs.map PyWrkeep.whole)) = true := h
    rw [Bool.and_eq_true, Bool.and_eq_true, Bool.and_eq_true] at h
    obtain ⟨⟨⟨_, h2⟩, h3⟩, h4⟩ := h
    unfold KeepNeutral.asked at h4
    rw [Bool.and_eq_true] at h4
    refine ⟨cs, rfl, of_decide_eq_true h2, fun c hc => ⟨List.all_eq_true.mp h3 c hc, List.all_eq_true.mp h4.1 _ (List.mem_map.mpr ⟨c, hc, rfl⟩)⟩, ?_⟩
    unfold PyWrkeep.answers PyWrkeep.calls
    rw [e]
    rfl
theorem ok_answers {f : Addr} {fd : FuncData} (T : Txt K mg A) (D : Fun K "answers" "answers" s_answers f fd) (m_Office : Maker P w K mg base "Office" A.Office 1 ["self"] (spInitOffice A)) (c_read_rows : Callee P w K mg base "read_rows" 1 ["calls", "at", "many"] (spRows K)) (c_answer_call : Callee P w K mg base "answer_call" 7 ["office", "call", "numbers", "rows"] (spAnswer A pt))
    (c_written : Callee P w K mg base "written" 1 ["number", "others"] spWritten) : FnOk P w K mg base CX0 8 f fd ["calls"] (spAns pt K) := by
  refine D.ok sc_answers (fun vs H Q E h => ?_) (fun cdv Ar outer sh H vs Q E hr h => ?_)
  · obtain ⟨_, _, rfl, _⟩ := h
    rfl
  · obtain ⟨a, ns, rfl, hS, hlen, hask, tb, q⟩ := h
    obtain ⟨cs0, hcs0, hn0, hok0, hans⟩ := asked_calls hask
    refine ⟨_, (pss_cons (ps_set (i := 1) sc_answers.nd rfl (by first | exact Or.inl rfl | exact Or.inr rfl) (pe_makeC0 m_Office (hr.mono (by decide)) rfl))
      (pss_cons (ps_set (i := 2) sc_answers.nd rfl (by first | exact Or.inl rfl | exact Or.inr rfl) (pe_lst pa_nil))
      (pss_cons (ps_set (i := 3) sc_answers.nd rfl (by first | exact Or.inl rfl | exact Or.inr rfl) pe_int)
      (pss_cons (ps_while PassesOwn.never (pt_cmpR op_lt (pv 3) (pe_callB call_len_seq rfl T.b_len bt_len (pa_cons (pv 0) pa_nil)) (nomark _)) (pss_cons (ps_set (i := 4) sc_answers.nd rfl (by first | exact Or.inl rfl | exact Or.inr rfl) (pe_ix ix_list (pv 0) (pv 3) (fun _ _ => rfl)))
      (pss_cons (ps_set (i := 5) sc_answers.nd rfl (by first | exact Or.inl rfl | exact Or.inr rfl) (pe_ix ix_tup (pe_globR rfl T.t_SHAPES) (pv 4) (fun _ _ => rfl)))
      (pss_cons (ps_set (i := 6) sc_answers.nd rfl (by first | exact Or.inl rfl | exact Or.inr rfl) (pe_op op_add (pe_op op_add (pv 3) pe_int) (pe_ix ix_tup (pv 5) pe_int (fun _ _ => rfl))))
      (pss_cons (ps_set (i := 7) sc_answers.nd rfl (by first | exact Or.inl rfl | exact Or.inr rfl) (pe_slice sl_list (pv 0) (po_some (pe_op op_add (pv 3) pe_int)) (po_some (pv 6))))
      (pss_cons (ps_set (i := 8) sc_answers.nd rfl (by first | exact Or.inl rfl | exact Or.inr rfl) (pe_callC c_read_rows (hr.mono (by decide)) rfl (pa_cons (pv 0) (pa_cons (pv 6) (pa_cons (pe_ix ix_tup (pv 5) pe_int (fun _ _ => rfl)) pa_nil)))))
      (pss_cons (ps_set (i := 3) sc_answers.nd rfl (by first | exact Or.inl rfl | exact Or.inr rfl) (pe_op op_add (pv 6) (pe_callB (cr_sum rfl) rfl T.b_sum bt_sum (pa_cons (pe_lc rfl sc_answers.nd (pi_list (pv 8)) (blkOk_by (own := [("row", 9)]) rfl) (fun _ _ _ _ _ => (pg_name (i := 9) sc_answers.nd rfl (by first | exact Or.inl rfl | exact Or.inr rfl))) (fun _ _ _ _ _ => pts_nil) (fun _ _ _ _ _ => (pe_op op_add pe_int (pe_callB (call_len_seqK (K := K) rfl) rfl T.b_len bt_len (pa_cons (pv 9) pa_nil))))) pa_nil))))
      (pss_cons (ps_set (i := 10) sc_answers.nd rfl (by first | exact Or.inl rfl | exact Or.inr rfl) (pe_callC c_answer_call (hr.mono (by decide)) rfl (pa_cons (pv 1) (pa_cons (pv 4) (pa_cons (pv 7) (pa_cons (pv 8) pa_nil))))))
      (pss_one (ps_expr (pe_bm PySem.F.plainAttrs_list PySem.F.slot_list_extend PySem.F.type_list_extend mt_extend (pv 2) (pa_cons (pe_callC c_written (hr.mono (by decide)) rfl (pa_cons (pe_ix ix_tup (pv 10) pe_int (fun _ _ => rfl)) (pa_cons (pe_ix ix_tup (pv 10) pe_int (fun _ _ => rfl)) pa_nil))) pa_nil))))))))))))
      (pss_one (ps_ret (pv 2))))))), ?_⟩
    -- office = Office()
    intro x dx nx ndx nex
    refine ⟨x, dx, rfl, upd_same, fun H1 c t m g hc ht hm hg ct cm tm gc gt gm h1c h1t h1m h1g h1x k1 => ⟨rfl, ?_⟩⟩
    have S1 : Same H H1 := Same.made nx ndx k1
    have nn : ∀ y, (upd (upd H dx (.own x)) x (.ins A.Office dx [])) y = none → y ≠ x ∧ H y = none := fun y hy => by
      have yx : y ≠ x := fun z => by rw [z, upd_same] at hy; cases hy
      rw [upd_ne yx] at hy
      have yd : y ≠ dx := fun z => by rw [z, upd_same] at hy; cases hy
      rw [upd_ne yd] at hy
      exact ⟨yx, hy⟩
    obtain ⟨cx, c0⟩ := nn c hc
    obtain ⟨tx, t0⟩ := nn t ht
    obtain ⟨mx, m0⟩ := nn m hm
    obtain ⟨gx, g0⟩ := nn g hg
    have R1 : Rep A H1 (lo0 x c t m g) Keep.start := Rep.start h1x h1c h1t h1m h1g cx tx mx gx ct.symm cm.symm tm.symm gc gt gm
    have out : ∀ b o, H b = some o → (lo0 x c t m g).g b = .out := fun b o e => by
      show (if b = x then Tag.off else if b = c then .cl else if b = t then .th else if b = m then .ma else if b = g then .go else .out) = .out
      rw [if_neg (ne_of_none e nx), if_neg (ne_of_none e c0), if_neg (ne_of_none e t0), if_neg (ne_of_none e m0), if_neg (ne_of_none e g0)]
    have A1 : ArgL K H1 (lo0 x c t m g) a (vI ns) := by
      refine ⟨Same.seq S1 hS, ?_⟩
      rcases hS with (h | ⟨o, h⟩) | h
      · exact .inl (out a _ h)
      · exact .inl (out a _ h)
      · exact .inr fun _ => .inr h
    have tb1 := tb.same S1
    -- given = []; at = 0
    refine ⟨Nat.zero_le _, fun gv hgv => ?_⟩
    have hag : a ≠ gv ∨ ∀ H', SqL K H' a (vI ns) := by
      rcases Same.seq S1 hS with (h | ⟨o, h⟩) | h
      · exact .inl (ne_of_none h hgv)
      · exact .inl (ne_of_none h hgv)
      · exact .inr fun _ => .inr h
    have I0 : Inv9 A K pt a x gv ns (upd H1 gv (.lst [])) 0 := by
      refine ⟨lo0 x c t m g, Keep.start, ns.length, cs0, [], R1.new hgv, KM.good_start.1, KM.good_start.2, tb1.new hgv, A1.frx tb1 (FrX.of (Fr.new hgv)), upd_same, R1.own gv hgv, rfl, by rw [List.drop_zero]; exact hcs0, hok0, by rw [List.nil_append]; exact hans.symm, ?_⟩
      show 0 + 310 * cs0.length ≤ 124000
      omega
    refine while_by (fun σ H' => ∃ (at_ : Nat) (o4 o5 o6 o7 o8 o9 o10 : Option V), σ = [some (.ref a), some (.ref x), some (.ref gv), some (.int at_), o4, o5, o6, o7, o8, o9, o10] ∧ at_ ≤ ns.length ∧ Inv9 A K pt a x gv ns H' at_) (fun σ _ => left9 ns.length σ)
      ⟨0, none, none, none, none, none, none, none, rfl, Nat.zero_le _, I0⟩ ?_ ?_
    · rintro σ H2 ⟨at_, o4, o5, o6, o7, o8, o9, o10, rfl, hat, I2⟩
      obtain ⟨L, s, f2, cs, gl, R2, W2, St2, tb2, A2, hgv2, gg2, eo2, hcs, hok, hans2, hlen2⟩ := I2.ex
      refine ⟨_, rfl, _, rfl, a, _, rfl, .inl A2.1, _, _, rfl, rfl, _, rfl, ?_⟩
      rw [vI_len]
      refine ite2 (fun c1 => ?_) (fun c1 => ?_)
      · have lt : at_ < ns.length := by have := of_decide_eq_true c1; omega
        obtain ⟨p, n, k, xs, f3, cs', hp, hsh, hle, ⟨t3, hrow⟩, hxk, htook, hcs', rfl⟩ := KP.call_at hcs lt
        obtain ⟨hb0, ha0⟩ := hok _ (List.mem_cons_self ..)
        have hnl : ((ns.drop (at_ + 1)).take n).length = n := by rw [List.length_take, List.length_drop]; omega
        obtain ⟨c, nn', rs, K', rd⟩ := read_of hsh hnl hxk hb0 ha0
        have hstep := rd.step s
        obtain ⟨rfl, cl, sh, en, er, one, hcall⟩ := rd
        have stup := shp_tup T sh cl
        -- call = calls[at]; shape = SHAPES[call]
        refine ⟨_, rfl, _, rfl, a, _, _, _, rfl, rfl, A2.1, atI_nat (vI_get hp), ?_⟩
        refine ⟨_, rfl, A.t_SHAPES, _, _, _, rfl, rfl, T.tt_SHAPES.sq _, atI_nat (refs_get cl), ?_⟩
        -- behind = at + 1 + shape[0]
        refine ⟨_, rfl, _, _, rfl, rfl, _, rfl, A.t_SHAPES_at c, _, _, _, rfl, rfl, stup.sq _, atI_nat (j := 0) rfl, _, _, rfl, rfl, ?_⟩
        have eb : ((at_ : Nat) : Int) + 1 + (n : Int) = ((at_ + 1 + n : Nat) : Int) := by omega
        -- numbers = calls[at + 1:behind]
        refine ⟨_, rfl, _, rfl, _, _, rfl, rfl, _, rfl, _, rfl, _, rfl, a, _, rfl, A2.1, fun nb hnb => ?_⟩
        have ec : cutV (vI ns) (some (((at_ : Nat) : Int) + 1)) (some (((at_ : Nat) : Int) + 1 + (n : Int))) = vints nn' := by
          rw [eb, show (((at_ : Nat) : Int) + 1) = ((at_ + 1 : Nat) : Int) by omega, cut_nat (by omega) (by rw [vI_len]; omega), vI_cut, show at_ + 1 + n - (at_ + 1) = n by omega, en, vI_toI]
        rw [ec]
        have tb3 := tb2.new (o := .lst (vints nn')) hnb
        have R3 := R2.new (o := .lst (vints nn')) hnb
        have A3 := A2.frx tb2 (FrX.of (Fr.new (o := .lst (vints nn')) hnb))
        have gnb : L.g nb = .out := R2.own nb hnb
        have hgv3 : upd H2 nb (.lst (vints nn')) gv = some (.lst (vI gl)) := by rw [upd_ne (ne_of_none hgv2 hnb)]; exact hgv2
        -- rows = read_rows(calls, behind, shape[1])
        refine ⟨_, rfl, _, rfl, _, rfl, A.t_SHAPES_at c, _, _, _, rfl, rfl, stup.sq _, atI_nat (j := 1) rfl, ?_⟩
        refine ⟨a, ns, at_ + 1 + n, k, xs, t3, (by rw [← eb]; rfl), A3.1, hrow, shape_le sh cl, fun H4 rb qs S4 hrb hqs hrbl rws => ?_⟩
        have R4 := R3.same S4
        have tb4 := tb3.same S4
        have A4 := A3.frx tb3 (FrX.same fun b o _ e => S4 b o e)
        have grb : L.g rb = .out := R3.own rb hrb
        have gqs : ∀ q ∈ qs, L.g q = .out := fun q hq => R3.own q (hqs q hq)
        have hgv4 := S4 _ _ hgv3
        have hnb4 : H4 nb = some (.lst (vints nn')) := S4 _ _ upd_same
        -- at = behind + sum(...)
        refine ⟨_, rfl, _, rfl, rb, rfl, ⟨_, SqL.of hrbl⟩, fun d hd => ?_⟩
        have xl : xs.length ≤ 2 := by rw [hxk]; exact shape_le sh cl
        refine lc_list (K := K) (a := rb) (xs := qs.map V.ref) (fun i H' => Same H4 H' ∧ H' d = some (.lst (vI (lens (xs.take i))))) ⟨sameNew (Same.refl H4) hd, upd_same⟩ (fun i H' _ ⟨S, _⟩ => SqL.of (S _ _ hrbl)) (fun i y H' hi ⟨S, hdl⟩ => ?_) (fun H5 ⟨S5, hdl⟩ => ?_)
        · obtain ⟨q0, hq0, rfl⟩ : ∃ q0, qs[i]? = some q0 ∧ y = V.ref q0 := by
            rw [List.getElem?_map] at hi
            cases z : qs[i]? with
            | none => rw [z] at hi; cases hi
            | some q0 => rw [z] at hi; exact ⟨q0, rfl, (Option.some.inj hi).symm⟩
          obtain ⟨x0, hx0⟩ : ∃ x0, xs[i]? = some x0 := ⟨_, List.getElem?_eq_getElem (by have := (List.getElem?_eq_some_iff.mp hq0).1; rw [rws.len] at this; exact this)⟩
          have hq4 := S _ _ (rws.at_ i q0 x0 hq0 hx0)
          refine ⟨rfl, ?_⟩
          refine yesT ?_
          refine ⟨_, rfl, q0, _, rfl, .inl (SqL.of hq4), _, _, rfl, rfl, _, hdl, ?_, sameNew S hd, ?_⟩
          · rw [vI_len]
            unfold lens
            rw [List.length_map]
            exact size256 (Nat.le_trans (List.length_take_le' _ _) (by omega))
          · rw [upd_same, vI_len, take_succ hx0]
            unfold lens
            rw [List.map_append, ← vI_append]
            show _ = some (HO.lst (_ ++ [V.int ((1 + x0.length : Nat) : Int)]))
            rw [show ((1 + x0.length : Nat) : Int) = 1 + (x0.length : Int) by omega]
        · rw [List.length_map, rws.len, List.take_length] at hdl
          have R5 := R4.same S5
          have tb5 := tb4.same S5
          have A5 := A4.frx tb4 (FrX.same fun b o _ e => S5 b o e)
          have hgv5 := S5 _ _ hgv4
          have hnb5 := S5 _ _ hnb4
          have hrb5 := S5 _ _ hrbl
          have rws5 : RowsN H5 qs rs := by
            have := rws.same fun b o e _ => S5 b o e
            rw [er] at this
            exact this.nat
          refine ⟨d, lens xs, rfl, SqL.of hdl, _, _, rfl, rfl, ?_⟩
          have ea : ((at_ : Nat) : Int) + 1 + (n : Int) + (lens xs).sum = ((at_ + 1 + n + KP.took xs : Nat) : Int) := by rw [lens_sum]; omega
          -- answer = answer_call(office, call, numbers, rows)
          refine ⟨_, rfl, _, rfl, _, rfl, _, rfl, L, s, nb, rb, qs, c, nn', rs, K', R5, W2, St2, tb5, one, (by rw [eo2]; rfl), hnb5, gnb, hrb5, grb, rws5, gqs, fun H6 L6 tp lp e6 R6 F6 tb6 htp hlp => ?_⟩
          obtain ⟨an1, an2⟩ := one_ans one W2
          have A6 := A5.frx tb5 F6
          have gvp : gv ≠ pt := fun z => by
            obtain ⟨ps, h⟩ := tb5.some
            rw [z, h] at hgv5; cases hgv5
          obtain ⟨hgv6, gg6⟩ := F6 gv _ gvp hgv5 gg2
          obtain ⟨W6, St6⟩ := KM.good_step K' W2 St2
          -- given.extend(written(answer[0], answer[1]))
          refine ⟨_, rfl, .inl ⟨rfl, _, SqL.of hgv6⟩, _, rfl, tp, _, _, _, rfl, rfl, SqT.of htp, atI_nat (j := 0) rfl, _, rfl, tp, _, _, _, rfl, rfl, SqT.of htp, atI_nat (j := 1) rfl, lp, _, _, rfl, hlp, (by rw [vints_len]; omega), fun H7 wl S7 hwl hw => ?_⟩
          have hgv7 := S7 _ _ hgv6
          have tb7 := tb6.same S7
          have R7 := R6.same S7
          have F7 : FrX pt H6 L6 H7 L6 := FrX.same fun b o _ e => S7 b o e
          have A7 := A6.frx tb6 F7
          have ew : [V.int (3 + ((vints (Keep.step s K').2.nums).length : Int)), V.int (Keep.step s K').2.ret, V.int 0, V.int ((vints (Keep.step s K').2.nums).length : Int)] ++ vints (Keep.step s K').2.nums = vI (((KeepNeutral.numbersOf (Keep.step s K').2).length : Int) :: KeepNeutral.numbersOf (Keep.step s K').2) := by
            rw [told_one an1, vints_len, ← vI_append, vI_toI]
            rfl
          rw [ew] at hw
          have nl : (((KeepNeutral.numbersOf (Keep.step s K').2).length : Int) :: KeepNeutral.numbersOf (Keep.step s K').2).length ≤ 304 := by
            rw [told_one an1]
            unfold toI
            rw [List.length_append, List.length_map]
            show 4 + _ ≤ 304
            omega
          rw [List.length_cons] at hlen2
          refine ⟨gv, wl, _, _, rfl, rfl, hgv7, hw, ?_, ?_⟩
          · rw [vI_len, vI_len]
            exact Nat.le_of_lt (Nat.lt_of_le_of_lt (show gl.length + _ ≤ 130000 by omega) (by decide))
          · rw [vI_append]
            have gvout : L6.g gv ≠ .off := fun z => by rw [gg6] at z; cases z
            refine ⟨⟨at_ + 1 + n + KP.took xs, _, _, _, _, _, _, _, (by rw [← ea]; rfl), htook, ⟨L6, (Keep.step s K').1, f3, cs', gl ++ (((KeepNeutral.numbersOf (Keep.step s K').2).length : Int) :: KeepNeutral.numbersOf (Keep.step s K').2), R7.other gg6, W6, St6, ?_, ?_, upd_same, gg6, e6.trans eo2, hcs', fun z hz => hok z (List.mem_cons_of_mem _ hz), ?_, ?_⟩⟩, ?_⟩
            · exact tb7.atL hgv7
            · exact A7.upd hag
            · rw [← hans2, List.append_assoc]
              congr 1
              show _ = PyFlat.told ((KeepNeutral.step s (PyWrkeep.whole ((((c : Nat) : Int) :: (ns.drop (at_ + 1)).take n) :: xs))).2 :: PyFlat.played KeepNeutral.step (KeepNeutral.step s (PyWrkeep.whole ((((c : Nat) : Int) :: (ns.drop (at_ + 1)).take n) :: xs))).1 (cs'.map PyWrkeep.whole))
              rw [hstep]
              rfl
            · rw [List.length_append]
              omega
            · show ns.length - (((at_ : Nat) : Int) + 1 + (n : Int) + (lens xs).sum).toNat < ns.length - (((at_ : Nat) : Int)).toNat
              rw [ea, Int.toNat_natCast, Int.toNat_natCast]
              omega
      · have e : at_ = ns.length := by
          rcases Nat.lt_or_ge at_ ns.length with z | z
          · exact absurd (decide_eq_true (by omega)) c1
          · omega
        rw [e, List.drop_length] at hcs
        have : cs = [] := KP.calls_nil hcs
        subst this
        have ea : gl = PyWrkeep.answers ns := by
          rw [← hans2]
          show gl = gl ++ []
          rw [List.append_nil]
        refine ⟨_, rfl, q H2 gv ?_⟩
        rw [hgv2, ea]
        rfl
    · rintro σ H Q Q' m ⟨v, hv, v2, hv2, p, ys, hp, hsq, i, j, hi, hj, k, hk, hq⟩
      exact ⟨v, hv, v2, hv2, p, ys, hp, hsq, i, j, hi, hj, k, hk, m _ _ hq⟩
end
end KB

set_option Elab.async false
set_option linter.all false
set_option autoImplicit false
set_option maxRecDepth 100000
set_option maxHeartbeats 2000000
namespace KB
open PySem PySem.Spec PyProof.Rows L2
structure Prg (K : PySem.W.Frag) (mg : Str → Option Value) (A : Adr) (pt : Addr) : Prop where
  T : Txt K mg A
  d_is_here : DefIn K mg "is_here" s_is_here ["office", "x"]
  d_things_here : DefIn K mg "things_here" s_things_here ["office"]
  d_is_held : DefIn K mg "is_held" s_is_held ["office", "x"]
  d_kept_by_itself : DefIn K mg "kept_by_itself" s_kept_by_itself ["office", "x"]
  d_mark_with_needs : DefIn K mg "mark_with_needs" s_mark_with_needs ["office", "x", "mark", "marks"]
  d_kept_things : DefIn K mg "kept_things" s_kept_things ["office"]
  d_let_go : DefIn K mg "let_go" s_let_go ["office"]
  d_moments_of_going : DefInC K mg "moments_of_going" s_moments_of_going ["office"] pt
  i_ThingClass : InitIn K mg A.ThingClass "ThingClass" "ThingClass.__init__" s_ThingClass___init__ ["self", "keep", "early"]
  i_Thing : InitIn K mg A.Thing "Thing" "Thing.__init__" s_Thing___init__ ["self", "which", "filed", "due", "needs"]
  i_Matter : InitIn K mg A.Matter "Matter" "Matter.__init__" s_Matter___init__ ["self"]
  i_Office : InitIn K mg A.Office "Office" "Office.__init__" s_Office___init__ ["self"]
  d_is_rising : DefIn K mg "is_rising" s_is_rising ["numbers"]
  d_all_here : DefIn K mg "all_here" s_all_here ["office", "numbers"]
  d_all_classes : DefIn K mg "all_classes" s_all_classes ["office", "numbers"]
  d_make_class : DefIn K mg "make_class" s_make_class ["office", "keep", "early"]
  d_make_longer : DefIn K mg "make_longer" s_make_longer ["office", "which", "keep"]
  d_file_thing : DefIn K mg "file_thing" s_file_thing ["office", "which", "needs"]
  d_add_need : DefIn K mg "add_need" s_add_need ["office", "x", "y"]
  d_fault_of_names : DefIn K mg "fault_of_names" s_fault_of_names ["office", "things", "classes"]
  d_add_names : DefIn K mg "add_names" s_add_names ["matter", "things", "classes"]
  d_make_matter : DefIn K mg "make_matter" s_make_matter ["office", "things", "classes"]
  d_fault_of_matter : DefIn K mg "fault_of_matter" s_fault_of_matter ["office", "number"]
  d_name_more : DefIn K mg "name_more" s_name_more ["office", "number", "things", "classes"]
  d_release_matter : DefIn K mg "release_matter" s_release_matter ["office", "number"]
  d_ask_thing : DefIn K mg "ask_thing" s_ask_thing ["office", "x"]
  d_tell_thing : DefIn K mg "tell_thing" s_tell_thing ["office", "x"]
  d_tell_when : DefIn K mg "tell_when" s_tell_when ["office", "x"]
  d_tell_next : DefIn K mg "tell_next" s_tell_next ["office"]
  d_tell_why : DefIn K mg "tell_why" s_tell_why ["office", "x"]
  d_tell_went : DefIn K mg "tell_went" s_tell_went ["office", "i"]
  d_tell_told : DefIn K mg "tell_told" s_tell_told ["office"]
  d_act : DefIn K mg "act" s_act ["office", "call", "numbers", "rows"]
  d_act_at_moment : DefIn K mg "act_at_moment" s_act_at_moment ["office", "call", "numbers", "rows"]
  d_tell : DefIn K mg "tell" s_tell ["office", "call", "numbers"]
  d_answer_call : DefIn K mg "answer_call" s_answer_call ["office", "call", "numbers", "rows"]
  d_written : DefIn K mg "written" s_written ["number", "others"]
  d_read_rows : DefIn K mg "read_rows" s_read_rows ["calls", "at", "many"]
  d_answers : DefIn K mg "answers" s_answers ["calls"]
set_option maxHeartbeats 0 in
theorem prg_mk {K : PySem.W.Frag} {h : Heap} {mg : Str → Option Value} {C_ThingClass C_Thing C_Matter C_Office a_SHAPES a_SHAPES_0 a_SHAPES_1 a_SHAPES_2 a_SHAPES_3 a_SHAPES_4 a_SHAPES_5 a_SHAPES_6 a_SHAPES_7 a_SHAPES_8 a_SHAPES_9 a_SHAPES_10 a_SHAPES_11 a_SHAPES_12 a_SHAPES_13 a_SHAPES_14 f_is_here f_things_here f_is_held f_kept_by_itself f_mark_with_needs f_kept_things f_let_go f_moments_of_going cM pM f_ThingClass___init__ f_Thing___init__ f_Matter___init__ f_Office___init__ f_is_rising f_all_here f_all_classes f_make_class f_make_longer f_file_thing f_add_need f_fault_of_names f_add_names f_make_matter f_fault_of_matter f_name_more f_release_matter f_ask_thing f_tell_thing f_tell_when f_tell_next f_tell_why f_tell_went f_tell_told f_act f_act_at_moment f_tell f_answer_call f_written f_read_rows f_answers : Addr} {od_SHAPES od_SHAPES_0 od_SHAPES_1 od_SHAPES_2 od_SHAPES_3 od_SHAPES_4 od_SHAPES_5 od_SHAPES_6 od_SHAPES_7 od_SHAPES_8 od_SHAPES_9 od_SHAPES_10 od_SHAPES_11 od_SHAPES_12 od_SHAPES_13 od_SHAPES_14 od_is_here an_is_here od_things_here an_things_here od_is_held an_is_held od_kept_by_itself an_kept_by_itself od_mark_with_needs an_mark_with_needs od_kept_things an_kept_things od_let_go an_let_go od_moments_of_going an_moments_of_going od_ThingClass___init__ an_ThingClass___init__ od_Thing___init__ an_Thing___init__ od_Matter___init__ an_Matter___init__ od_Office___init__ an_Office___init__ od_is_rising an_is_rising od_all_here an_all_here od_all_classes an_all_classes od_make_class an_make_class od_make_longer an_make_longer od_file_thing an_file_thing od_add_need an_add_need od_fault_of_names an_fault_of_names od_add_names an_add_names od_make_matter an_make_matter od_fault_of_matter an_fault_of_matter od_name_more an_name_more od_release_matter an_release_matter od_ask_thing an_ask_thing od_tell_thing an_tell_thing od_tell_when an_tell_when od_tell_next an_tell_next od_tell_why an_tell_why od_tell_went an_tell_went od_tell_told an_tell_told od_act an_act od_act_at_moment an_act_at_moment od_tell an_tell od_answer_call an_answer_call od_written an_written od_read_rows an_read_rows od_answers an_answers : Option Addr} {sl_SHAPES sl_SHAPES_0 sl_SHAPES_1 sl_SHAPES_2 sl_SHAPES_3 sl_SHAPES_4 sl_SHAPES_5 sl_SHAPES_6 sl_SHAPES_7 sl_SHAPES_8 sl_SHAPES_9 sl_SHAPES_10 sl_SHAPES_11 sl_SHAPES_12 sl_SHAPES_13 sl_SHAPES_14 sl_is_here sl_things_here sl_is_held sl_kept_by_itself sl_mark_with_needs sl_kept_things sl_let_go sl_moments_of_going sl_ThingClass___init__ sl_Thing___init__ sl_Matter___init__ sl_Office___init__ sl_is_rising sl_all_here sl_all_classes sl_make_class sl_make_longer sl_file_thing sl_add_need sl_fault_of_names sl_add_names sl_make_matter sl_fault_of_matter sl_name_more sl_release_matter sl_ask_thing sl_tell_thing sl_tell_when sl_tell_next sl_tell_why sl_tell_went sl_tell_told sl_act sl_act_at_moment sl_tell sl_answer_call sl_written sl_read_rows sl_answers : Array (Option Value)} {oc_is_here kV_is_here dc_is_here pm_is_here cd_is_here ct_is_here oc_things_here kV_things_here dc_things_here pm_things_here cd_things_here ct_things_here oc_is_held kV_is_held dc_is_held pm_is_held cd_is_held ct_is_held oc_kept_by_itself kV_kept_by_itself dc_kept_by_itself pm_kept_by_itself cd_kept_by_itself ct_kept_by_itself oc_mark_with_needs kV_mark_with_needs dc_mark_with_needs pm_mark_with_needs cd_mark_with_needs ct_mark_with_needs oc_kept_things kV_kept_things dc_kept_things pm_kept_things cd_kept_things ct_kept_things oc_let_go kV_let_go dc_let_go pm_let_go cd_let_go ct_let_go oc_moments_of_going kV_moments_of_going dc_moments_of_going pm_moments_of_going ct_moments_of_going oc_ThingClass___init__ kV_ThingClass___init__ dc_ThingClass___init__ pm_ThingClass___init__ cd_ThingClass___init__ ct_ThingClass___init__ oc_Thing___init__ kV_Thing___init__ dc_Thing___init__ pm_Thing___init__ cd_Thing___init__ ct_Thing___init__ oc_Matter___init__ kV_Matter___init__ dc_Matter___init__ pm_Matter___init__ cd_Matter___init__ ct_Matter___init__ oc_Office___init__ kV_Office___init__ dc_Office___init__ pm_Office___init__ cd_Office___init__ ct_Office___init__ oc_is_rising kV_is_rising dc_is_rising pm_is_rising cd_is_rising ct_is_rising oc_all_here kV_all_here dc_all_here pm_all_here cd_all_here ct_all_here oc_all_classes kV_all_classes dc_all_classes pm_all_classes cd_all_classes ct_all_classes oc_make_class kV_make_class dc_make_class pm_make_class cd_make_class ct_make_class oc_make_longer kV_make_longer dc_make_longer pm_make_longer cd_make_longer ct_make_longer oc_file_thing kV_file_thing dc_file_thing pm_file_thing cd_file_thing ct_file_thing oc_add_need kV_add_need dc_add_need pm_add_need cd_add_need ct_add_need oc_fault_of_names kV_fault_of_names dc_fault_of_names pm_fault_of_names cd_fault_of_names ct_fault_of_names oc_add_names kV_add_names dc_add_names pm_add_names cd_add_names ct_add_names oc_make_matter kV_make_matter dc_make_matter pm_make_matter cd_make_matter ct_make_matter oc_fault_of_matter kV_fault_of_matter dc_fault_of_matter pm_fault_of_matter cd_fault_of_matter ct_fault_of_matter oc_name_more kV_name_more dc_name_more pm_name_more cd_name_more ct_name_more oc_release_matter kV_release_matter dc_release_matter pm_release_matter cd_release_matter ct_release_matter oc_ask_thing kV_ask_thing dc_ask_thing pm_ask_thing cd_ask_thing ct_ask_thing oc_tell_thing kV_tell_thing dc_tell_thing pm_tell_thing cd_tell_thing ct_tell_thing oc_tell_when kV_tell_when dc_tell_when pm_tell_when cd_tell_when ct_tell_when oc_tell_next kV_tell_next dc_tell_next pm_tell_next cd_tell_next ct_tell_next oc_tell_why kV_tell_why dc_tell_why pm_tell_why cd_tell_why ct_tell_why oc_tell_went kV_tell_went dc_tell_went pm_tell_went cd_tell_went ct_tell_went oc_tell_told kV_tell_told dc_tell_told pm_tell_told cd_tell_told ct_tell_told oc_act kV_act dc_act pm_act cd_act ct_act oc_act_at_moment kV_act_at_moment dc_act_at_moment pm_act_at_moment cd_act_at_moment ct_act_at_moment oc_tell kV_tell dc_tell pm_tell cd_tell ct_tell oc_answer_call kV_answer_call dc_answer_call pm_answer_call cd_answer_call ct_answer_call oc_written kV_written dc_written pm_written cd_written ct_written oc_read_rows kV_read_rows dc_read_rows pm_read_rows cd_read_rows ct_read_rows oc_answers kV_answers dc_answers pm_answers cd_answers ct_answers : Value} {t_WRONG t_TOO_MANY t_FULL t_RELEASED t_NOT_THERE t_BELOW_LAST t_NOT_LET t_KEEP_LIMIT t_MOST_CLASSES t_MOST_THINGS t_MOST_MATTERS t_MOST_NEEDS t_MOST_NAMED t_MOMENT_LIMIT t_MAKE_CLASS t_LONGER t_FILE t_NEED t_MATTER t_MORE t_RELEASE t_TICK t_THING t_WHEN t_NEXT t_WHY t_WENT n_SHAPES n_SHAPES_0 t_SHAPES_0_0 t_SHAPES_0_1 n_SHAPES_1 t_SHAPES_1_0 t_SHAPES_1_1 n_SHAPES_2 t_SHAPES_2_0 t_SHAPES_2_1 n_SHAPES_3 t_SHAPES_3_0 t_SHAPES_3_1 n_SHAPES_4 t_SHAPES_4_0 t_SHAPES_4_1 n_SHAPES_5 t_SHAPES_5_0 t_SHAPES_5_1 n_SHAPES_6 t_SHAPES_6_0 t_SHAPES_6_1 n_SHAPES_7 t_SHAPES_7_0 t_SHAPES_7_1 n_SHAPES_8 t_SHAPES_8_0 t_SHAPES_8_1 n_SHAPES_9 t_SHAPES_9_0 t_SHAPES_9_1 n_SHAPES_10 t_SHAPES_10_0 t_SHAPES_10_1 n_SHAPES_11 t_SHAPES_11_0 t_SHAPES_11_1 n_SHAPES_12 t_SHAPES_12_0 t_SHAPES_12_1 n_SHAPES_13 t_SHAPES_13_0 t_SHAPES_13_1 n_SHAPES_14 t_SHAPES_14_0 t_SHAPES_14_1 : Nat} (X : K.In h) (G : h.Ns mainGlobals mg)
    (a_ThingClass : PySem.W.nsIn K mainGlobals "ThingClass" = some (some (.ref C_ThingClass)))
    (pg_ThingClass : PySem.W.plainGet K C_ThingClass Str.empty = true)
    (hd_ThingClass : PySem.W.hasDictIn K C_ThingClass = true)
    (po_ThingClass : PySem.W.plainOver K C_ThingClass = true)
    (sa_ThingClass : PySem.W.findIn K (.ref C_ThingClass) "__setattr__" = some (some (.builtin "object.__setattr__")))
    (mk_ThingClass : PySem.W.makesIn K C_ThingClass = true)
    (kc_ThingClass : PySem.W.keepIn K (.ref C_ThingClass) = true)
    (n_ThingClass_keep : PySem.W.findIn K (.ref C_ThingClass) "keep" = some none)
    (n_ThingClass_early : PySem.W.findIn K (.ref C_ThingClass) "early" = some none)
    (a_Thing : PySem.W.nsIn K mainGlobals "Thing" = some (some (.ref C_Thing)))
    (pg_Thing : PySem.W.plainGet K C_Thing Str.empty = true)
    (hd_Thing : PySem.W.hasDictIn K C_Thing = true)
    (po_Thing : PySem.W.plainOver K C_Thing = true)
    (sa_Thing : PySem.W.findIn K (.ref C_Thing) "__setattr__" = some (some (.builtin "object.__setattr__")))
    (mk_Thing : PySem.W.makesIn K C_Thing = true)
    (kc_Thing : PySem.W.keepIn K (.ref C_Thing) = true)
    (n_Thing_which : PySem.W.findIn K (.ref C_Thing) "which" = some none)
    (n_Thing_filed : PySem.W.findIn K (.ref C_Thing) "filed" = some none)
    (n_Thing_due : PySem.W.findIn K (.ref C_Thing) "due" = some none)
    (n_Thing_needs : PySem.W.findIn K (.ref C_Thing) "needs" = some none)
    (n_Thing_here : PySem.W.findIn K (.ref C_Thing) "here" = some none)
    (n_Thing_gone_at : PySem.W.findIn K (.ref C_Thing) "gone_at" = some none)
    (a_Matter : PySem.W.nsIn K mainGlobals "Matter" = some (some (.ref C_Matter)))
    (pg_Matter : PySem.W.plainGet K C_Matter Str.empty = true)
    (hd_Matter : PySem.W.hasDictIn K C_Matter = true)
    (po_Matter : PySem.W.plainOver K C_Matter = true)
    (sa_Matter : PySem.W.findIn K (.ref C_Matter) "__setattr__" = some (some (.builtin "object.__setattr__")))
    (mk_Matter : PySem.W.makesIn K C_Matter = true)
    (kc_Matter : PySem.W.keepIn K (.ref C_Matter) = true)
    (n_Matter_things : PySem.W.findIn K (.ref C_Matter) "things" = some none)
    (n_Matter_classes : PySem.W.findIn K (.ref C_Matter) "classes" = some none)
    (n_Matter_stands : PySem.W.findIn K (.ref C_Matter) "stands" = some none)
    (a_Office : PySem.W.nsIn K mainGlobals "Office" = some (some (.ref C_Office)))
    (pg_Office : PySem.W.plainGet K C_Office Str.empty = true)
    (hd_Office : PySem.W.hasDictIn K C_Office = true)
    (po_Office : PySem.W.plainOver K C_Office = true)
    (sa_Office : PySem.W.findIn K (.ref C_Office) "__setattr__" = some (some (.builtin "object.__setattr__")))
    (mk_Office : PySem.W.makesIn K C_Office = true)
    (kc_Office : PySem.W.keepIn K (.ref C_Office) = true)
    (n_Office_moment : PySem.W.findIn K (.ref C_Office) "moment" = some none)
    (n_Office_classes : PySem.W.findIn K (.ref C_Office) "classes" = some none)
    (n_Office_things : PySem.W.findIn K (.ref C_Office) "things" = some none)
    (n_Office_matters : PySem.W.findIn K (.ref C_Office) "matters" = some none)
    (n_Office_gone : PySem.W.findIn K (.ref C_Office) "gone" = some none)
    (g_WRONG : PySem.W.nsIn K mainGlobals "WRONG" = some (some (.int (-1) t_WRONG)))
    (g_TOO_MANY : PySem.W.nsIn K mainGlobals "TOO_MANY" = some (some (.int (-2) t_TOO_MANY)))
    (g_FULL : PySem.W.nsIn K mainGlobals "FULL" = some (some (.int (-3) t_FULL)))
    (g_RELEASED : PySem.W.nsIn K mainGlobals "RELEASED" = some (some (.int (-3) t_RELEASED)))
    (g_NOT_THERE : PySem.W.nsIn K mainGlobals "NOT_THERE" = some (some (.int (-4) t_NOT_THERE)))
    (g_BELOW_LAST : PySem.W.nsIn K mainGlobals "BELOW_LAST" = some (some (.int (-5) t_BELOW_LAST)))
    (g_NOT_LET : PySem.W.nsIn K mainGlobals "NOT_LET" = some (some (.int (-9) t_NOT_LET)))
    (g_KEEP_LIMIT : PySem.W.nsIn K mainGlobals "KEEP_LIMIT" = some (some (.int 549755813888 t_KEEP_LIMIT)))
    (g_MOST_CLASSES : PySem.W.nsIn K mainGlobals "MOST_CLASSES" = some (some (.int 16 t_MOST_CLASSES)))
    (g_MOST_THINGS : PySem.W.nsIn K mainGlobals "MOST_THINGS" = some (some (.int 256 t_MOST_THINGS)))
    (g_MOST_MATTERS : PySem.W.nsIn K mainGlobals "MOST_MATTERS" = some (some (.int 32 t_MOST_MATTERS)))
    (g_MOST_NEEDS : PySem.W.nsIn K mainGlobals "MOST_NEEDS" = some (some (.int 16 t_MOST_NEEDS)))
    (g_MOST_NAMED : PySem.W.nsIn K mainGlobals "MOST_NAMED" = some (some (.int 256 t_MOST_NAMED)))
    (g_MOMENT_LIMIT : PySem.W.nsIn K mainGlobals "MOMENT_LIMIT" = some (some (.int 1099511627776 t_MOMENT_LIMIT)))
    (g_MAKE_CLASS : PySem.W.nsIn K mainGlobals "MAKE_CLASS" = some (some (.int 0 t_MAKE_CLASS)))
    (g_LONGER : PySem.W.nsIn K mainGlobals "LONGER" = some (some (.int 1 t_LONGER)))
    (g_FILE : PySem.W.nsIn K mainGlobals "FILE" = some (some (.int 2 t_FILE)))
    (g_NEED : PySem.W.nsIn K mainGlobals "NEED" = some (some (.int 3 t_NEED)))
    (g_MATTER : PySem.W.nsIn K mainGlobals "MATTER" = some (some (.int 4 t_MATTER)))
    (g_MORE : PySem.W.nsIn K mainGlobals "MORE" = some (some (.int 5 t_MORE)))
    (g_RELEASE : PySem.W.nsIn K mainGlobals "RELEASE" = some (some (.int 6 t_RELEASE)))
    (g_TICK : PySem.W.nsIn K mainGlobals "TICK" = some (some (.int 8 t_TICK)))
    (g_THING : PySem.W.nsIn K mainGlobals "THING" = some (some (.int 9 t_THING)))
    (g_WHEN : PySem.W.nsIn K mainGlobals "WHEN" = some (some (.int 10 t_WHEN)))
    (g_NEXT : PySem.W.nsIn K mainGlobals "NEXT" = some (some (.int 11 t_NEXT)))
    (g_WHY : PySem.W.nsIn K mainGlobals "WHY" = some (some (.int 12 t_WHY)))
    (g_WENT : PySem.W.nsIn K mainGlobals "WENT" = some (some (.int 13 t_WENT)))
    (t_SHAPES : PySem.W.nsIn K mainGlobals "SHAPES" = some (some (.ref a_SHAPES)))
    (l_SHAPES : K.lookup a_SHAPES = some ⟨.type "tuple", od_SHAPES, .seq #[Value.ref a_SHAPES_0, Value.ref a_SHAPES_1, Value.ref a_SHAPES_2, Value.ref a_SHAPES_3, Value.ref a_SHAPES_4, Value.ref a_SHAPES_5, Value.ref a_SHAPES_6, Value.ref a_SHAPES_7, Value.ref a_SHAPES_8, Value.ref a_SHAPES_9, Value.ref a_SHAPES_10, Value.ref a_SHAPES_11, Value.ref a_SHAPES_12, Value.ref a_SHAPES_13, Value.ref a_SHAPES_14] n_SHAPES, sl_SHAPES⟩)
    (l_SHAPES_0 : K.lookup a_SHAPES_0 = some ⟨.type "tuple", od_SHAPES_0, .seq #[Value.int 2 t_SHAPES_0_0, Value.int 0 t_SHAPES_0_1] n_SHAPES_0, sl_SHAPES_0⟩)
    (l_SHAPES_1 : K.lookup a_SHAPES_1 = some ⟨.type "tuple", od_SHAPES_1, .seq #[Value.int 2 t_SHAPES_1_0, Value.int 0 t_SHAPES_1_1] n_SHAPES_1, sl_SHAPES_1⟩)
    (l_SHAPES_2 : K.lookup a_SHAPES_2 = some ⟨.type "tuple", od_SHAPES_2, .seq #[Value.int 2 t_SHAPES_2_0, Value.int 1 t_SHAPES_2_1] n_SHAPES_2, sl_SHAPES_2⟩)
    (l_SHAPES_3 : K.lookup a_SHAPES_3 = some ⟨.type "tuple", od_SHAPES_3, .seq #[Value.int 3 t_SHAPES_3_0, Value.int 0 t_SHAPES_3_1] n_SHAPES_3, sl_SHAPES_3⟩)
    (l_SHAPES_4 : K.lookup a_SHAPES_4 = some ⟨.type "tuple", od_SHAPES_4, .seq #[Value.int 1 t_SHAPES_4_0, Value.int 2 t_SHAPES_4_1] n_SHAPES_4, sl_SHAPES_4⟩)
    (l_SHAPES_5 : K.lookup a_SHAPES_5 = some ⟨.type "tuple", od_SHAPES_5, .seq #[Value.int 2 t_SHAPES_5_0, Value.int 2 t_SHAPES_5_1] n_SHAPES_5, sl_SHAPES_5⟩)
    (l_SHAPES_6 : K.lookup a_SHAPES_6 = some ⟨.type "tuple", od_SHAPES_6, .seq #[Value.int 2 t_SHAPES_6_0, Value.int 0 t_SHAPES_6_1] n_SHAPES_6, sl_SHAPES_6⟩)
    (l_SHAPES_7 : K.lookup a_SHAPES_7 = some ⟨.type "tuple", od_SHAPES_7, .seq #[Value.int 2 t_SHAPES_7_0, Value.int 0 t_SHAPES_7_1] n_SHAPES_7, sl_SHAPES_7⟩)
    (l_SHAPES_8 : K.lookup a_SHAPES_8 = some ⟨.type "tuple", od_SHAPES_8, .seq #[Value.int 1 t_SHAPES_8_0, Value.int 0 t_SHAPES_8_1] n_SHAPES_8, sl_SHAPES_8⟩)
    (l_SHAPES_9 : K.lookup a_SHAPES_9 = some ⟨.type "tuple", od_SHAPES_9, .seq #[Value.int 1 t_SHAPES_9_0, Value.int 0 t_SHAPES_9_1] n_SHAPES_9, sl_SHAPES_9⟩)
    (l_SHAPES_10 : K.lookup a_SHAPES_10 = some ⟨.type "tuple", od_SHAPES_10, .seq #[Value.int 1 t_SHAPES_10_0, Value.int 0 t_SHAPES_10_1] n_SHAPES_10, sl_SHAPES_10⟩)
    (l_SHAPES_11 : K.lookup a_SHAPES_11 = some ⟨.type "tuple", od_SHAPES_11, .seq #[Value.int 0 t_SHAPES_11_0, Value.int 0 t_SHAPES_11_1] n_SHAPES_11, sl_SHAPES_11⟩)
    (l_SHAPES_12 : K.lookup a_SHAPES_12 = some ⟨.type "tuple", od_SHAPES_12, .seq #[Value.int 1 t_SHAPES_12_0, Value.int 0 t_SHAPES_12_1] n_SHAPES_12, sl_SHAPES_12⟩)
    (l_SHAPES_13 : K.lookup a_SHAPES_13 = some ⟨.type "tuple", od_SHAPES_13, .seq #[Value.int 1 t_SHAPES_13_0, Value.int 0 t_SHAPES_13_1] n_SHAPES_13, sl_SHAPES_13⟩)
    (l_SHAPES_14 : K.lookup a_SHAPES_14 = some ⟨.type "tuple", od_SHAPES_14, .seq #[Value.int 0 t_SHAPES_14_0, Value.int 0 t_SHAPES_14_1] n_SHAPES_14, sl_SHAPES_14⟩)
    (b_len : PySem.W.nsIn K mainGlobals "len" = some none)
    (b_list : PySem.W.nsIn K mainGlobals "list" = some none)
    (b_min : PySem.W.nsIn K mainGlobals "min" = some none)
    (b_range : PySem.W.nsIn K mainGlobals "range" = some none)
    (b_sorted : PySem.W.nsIn K mainGlobals "sorted" = some none)
    (b_sum : PySem.W.nsIn K mainGlobals "sum" = some none)
    (a_is_here : PySem.W.nsIn K mainGlobals "is_here" = some (some (.ref f_is_here)))
    (l_is_here : K.lookup f_is_here = some ⟨oc_is_here, od_is_here, .func (PySem.W.fnOf "is_here" "is_here" (defArgs s_is_here) (defBody s_is_here) (defScope s_is_here) .none kV_is_here dc_is_here pm_is_here an_is_here cd_is_here ct_is_here), sl_is_here⟩)
    (c_is_here : PySem.W.codeIn K cd_is_here "is_here" = true)
    (k_is_here : PySem.W.keepIn K (.ref f_is_here) = true)
    (a_things_here : PySem.W.nsIn K mainGlobals "things_here" = some (some (.ref f_things_here)))
    (l_things_here : K.lookup f_things_here = some ⟨oc_things_here, od_things_here, .func (PySem.W.fnOf "things_here" "things_here" (defArgs s_things_here) (defBody s_things_here) (defScope s_things_here) .none kV_things_here dc_things_here pm_things_here an_things_here cd_things_here ct_things_here), sl_things_here⟩)
    (c_things_here : PySem.W.codeIn K cd_things_here "things_here" = true)
    (k_things_here : PySem.W.keepIn K (.ref f_things_here) = true)
    (a_is_held : PySem.W.nsIn K mainGlobals "is_held" = some (some (.ref f_is_held)))
    (l_is_held : K.lookup f_is_held = some ⟨oc_is_held, od_is_held, .func (PySem.W.fnOf "is_held" "is_held" (defArgs s_is_held) (defBody s_is_held) (defScope s_is_held) .none kV_is_held dc_is_held pm_is_held an_is_held cd_is_held ct_is_held), sl_is_held⟩)
    (c_is_held : PySem.W.codeIn K cd_is_held "is_held" = true)
    (k_is_held : PySem.W.keepIn K (.ref f_is_held) = true)
    (a_kept_by_itself : PySem.W.nsIn K mainGlobals "kept_by_itself" = some (some (.ref f_kept_by_itself)))
    (l_kept_by_itself : K.lookup f_kept_by_itself = some ⟨oc_kept_by_itself, od_kept_by_itself, .func (PySem.W.fnOf "kept_by_itself" "kept_by_itself" (defArgs s_kept_by_itself) (defBody s_kept_by_itself) (defScope s_kept_by_itself) .none kV_kept_by_itself dc_kept_by_itself pm_kept_by_itself an_kept_by_itself cd_kept_by_itself ct_kept_by_itself), sl_kept_by_itself⟩)
    (c_kept_by_itself : PySem.W.codeIn K cd_kept_by_itself "kept_by_itself" = true)
    (k_kept_by_itself : PySem.W.keepIn K (.ref f_kept_by_itself) = true)
    (a_mark_with_needs : PySem.W.nsIn K mainGlobals "mark_with_needs" = some (some (.ref f_mark_with_needs)))
    (l_mark_with_needs : K.lookup f_mark_with_needs = some ⟨oc_mark_with_needs, od_mark_with_needs, .func (PySem.W.fnOf "mark_with_needs" "mark_with_needs" (defArgs s_mark_with_needs) (defBody s_mark_with_needs) (defScope s_mark_with_needs) .none kV_mark_with_needs dc_mark_with_needs pm_mark_with_needs an_mark_with_needs cd_mark_with_needs ct_mark_with_needs), sl_mark_with_needs⟩)
    (c_mark_with_needs : PySem.W.codeIn K cd_mark_with_needs "mark_with_needs" = true)
    (k_mark_with_needs : PySem.W.keepIn K (.ref f_mark_with_needs) = true)
    (a_kept_things : PySem.W.nsIn K mainGlobals "kept_things" = some (some (.ref f_kept_things)))
    (l_kept_things : K.lookup f_kept_things = some ⟨oc_kept_things, od_kept_things, .func (PySem.W.fnOf "kept_things" "kept_things" (defArgs s_kept_things) (defBody s_kept_things) (defScope s_kept_things) .none kV_kept_things dc_kept_things pm_kept_things an_kept_things cd_kept_things ct_kept_things), sl_kept_things⟩)
    (c_kept_things : PySem.W.codeIn K cd_kept_things "kept_things" = true)
    (k_kept_things : PySem.W.keepIn K (.ref f_kept_things) = true)
    (a_let_go : PySem.W.nsIn K mainGlobals "let_go" = some (some (.ref f_let_go)))
    (l_let_go : K.lookup f_let_go = some ⟨oc_let_go, od_let_go, .func (PySem.W.fnOf "let_go" "let_go" (defArgs s_let_go) (defBody s_let_go) (defScope s_let_go) .none kV_let_go dc_let_go pm_let_go an_let_go cd_let_go ct_let_go), sl_let_go⟩)
    (c_let_go : PySem.W.codeIn K cd_let_go "let_go" = true)
    (k_let_go : PySem.W.keepIn K (.ref f_let_go) = true)
    (a_moments_of_going : PySem.W.nsIn K mainGlobals "moments_of_going" = some (some (.ref f_moments_of_going)))
    (l_moments_of_going : K.lookup f_moments_of_going = some ⟨oc_moments_of_going, od_moments_of_going, .func (PySem.W.fnOf "moments_of_going" "moments_of_going" (defArgs s_moments_of_going) (defBody s_moments_of_going) (defScope s_moments_of_going) .none kV_moments_of_going dc_moments_of_going pm_moments_of_going an_moments_of_going (.ref cM) ct_moments_of_going), sl_moments_of_going⟩)
    (c_moments_of_going : PySem.W.codeIn K (.ref cM) "moments_of_going" = true)
    (h_moments_of_going : PySem.W.codeHdIn K cM pM = true)
    (k_moments_of_going : PySem.W.keepIn K (.ref f_moments_of_going) = true)
    (a_ThingClass___init__ : PySem.W.findIn K (.ref C_ThingClass) "__init__" = some (some (.ref f_ThingClass___init__)))
    (i_ThingClass___init__ : PySem.W.isFn K (.ref f_ThingClass___init__) = true)
    (l_ThingClass___init__ : K.lookup f_ThingClass___init__ = some ⟨oc_ThingClass___init__, od_ThingClass___init__, .func (PySem.W.fnOf "__init__" "ThingClass.__init__" (defArgs s_ThingClass___init__) (defBody s_ThingClass___init__) (defScope s_ThingClass___init__) .none kV_ThingClass___init__ dc_ThingClass___init__ pm_ThingClass___init__ an_ThingClass___init__ cd_ThingClass___init__ ct_ThingClass___init__), sl_ThingClass___init__⟩)
    (c_ThingClass___init__ : PySem.W.codeIn K cd_ThingClass___init__ "ThingClass.__init__" = true)
    (k_ThingClass___init__ : PySem.W.keepIn K (.ref f_ThingClass___init__) = true)
    (a_Thing___init__ : PySem.W.findIn K (.ref C_Thing) "__init__" = some (some (.ref f_Thing___init__)))
    (i_Thing___init__ : PySem.W.isFn K (.ref f_Thing___init__) = true)
    (l_Thing___init__ : K.lookup f_Thing___init__ = some ⟨oc_Thing___init__, od_Thing___init__, .func (PySem.W.fnOf "__init__" "Thing.__init__" (defArgs s_Thing___init__) (defBody s_Thing___init__) (defScope s_Thing___init__) .none kV_Thing___init__ dc_Thing___init__ pm_Thing___init__ an_Thing___init__ cd_Thing___init__ ct_Thing___init__), sl_Thing___init__⟩)
    (c_Thing___init__ : PySem.W.codeIn K cd_Thing___init__ "Thing.__init__" = true)
    (k_Thing___init__ : PySem.W.keepIn K (.ref f_Thing___init__) = true)
    (a_Matter___init__ : PySem.W.findIn K (.ref C_Matter) "__init__" = some (some (.ref f_Matter___init__)))
    (i_Matter___init__ : PySem.W.isFn K (.ref f_Matter___init__) = true)
    (l_Matter___init__ : K.lookup f_Matter___init__ = some ⟨oc_Matter___init__, od_Matter___init__, .func (PySem.W.fnOf "__init__" "Matter.__init__" (defArgs s_Matter___init__) (defBody s_Matter___init__) (defScope s_Matter___init__) .none kV_Matter___init__ dc_Matter___init__ pm_Matter___init__ an_Matter___init__ cd_Matter___init__ ct_Matter___init__), sl_Matter___init__⟩)
    (c_Matter___init__ : PySem.W.codeIn K cd_Matter___init__ "Matter.__init__" = true)
    (k_Matter___init__ : PySem.W.keepIn K (.ref f_Matter___init__) = true)
    (a_Office___init__ : PySem.W.findIn K (.ref C_Office) "__init__" = some (some (.ref f_Office___init__)))
    (i_Office___init__ : PySem.W.isFn K (.ref f_Office___init__) = true)
    (l_Office___init__ : K.lookup f_Office___init__ = some ⟨oc_Office___init__, od_Office___init__, .func (PySem.W.fnOf "__init__" "Office.__init__" (defArgs s_Office___init__) (defBody s_Office___init__) (defScope s_Office___init__) .none kV_Office___init__ dc_Office___init__ pm_Office___init__ an_Office___init__ cd_Office___init__ ct_Office___init__), sl_Office___init__⟩)
    (c_Office___init__ : PySem.W.codeIn K cd_Office___init__ "Office.__init__" = true)
    (k_Office___init__ : PySem.W.keepIn K (.ref f_Office___init__) = true)
    (a_is_rising : PySem.W.nsIn K mainGlobals "is_rising" = some (some (.ref f_is_rising)))
    (l_is_rising : K.lookup f_is_rising = some ⟨oc_is_rising, od_is_rising, .func (PySem.W.fnOf "is_rising" "is_rising" (defArgs s_is_rising) (defBody s_is_rising) (defScope s_is_rising) .none kV_is_rising dc_is_rising pm_is_rising an_is_rising cd_is_rising ct_is_rising), sl_is_rising⟩)
    (c_is_rising : PySem.W.codeIn K cd_is_rising "is_rising" = true)
    (k_is_rising : PySem.W.keepIn K (.ref f_is_rising) = true)
    (a_all_here : PySem.W.nsIn K mainGlobals "all_here" = some (some (.ref f_all_here)))
    (l_all_here : K.lookup f_all_here = some ⟨oc_all_here, od_all_here, .func (PySem.W.fnOf "all_here" "all_here" (defArgs s_all_here) (defBody s_all_here) (defScope s_all_here) .none kV_all_here dc_all_here pm_all_here an_all_here cd_all_here ct_all_here), sl_all_here⟩)
    (c_all_here : PySem.W.codeIn K cd_all_here "all_here" = true)
    (k_all_here : PySem.W.keepIn K (.ref f_all_here) = true)
    (a_all_classes : PySem.W.nsIn K mainGlobals "all_classes" = some (some (.ref f_all_classes)))
    (l_all_classes : K.lookup f_all_classes = some ⟨oc_all_classes, od_all_classes, .func (PySem.W.fnOf "all_classes" "all_classes" (defArgs s_all_classes) (defBody s_all_classes) (defScope s_all_classes) .none kV_all_classes dc_all_classes pm_all_classes an_all_classes cd_all_classes ct_all_classes), sl_all_classes⟩)
    (c_all_classes : PySem.W.codeIn K cd_all_classes "all_classes" = true)
    (k_all_classes : PySem.W.keepIn K (.ref f_all_classes) = true)
    (a_make_class : PySem.W.nsIn K mainGlobals "make_class" = some (some (.ref f_make_class)))
    (l_make_class : K.lookup f_make_class = some ⟨oc_make_class, od_make_class, .func (PySem.W.fnOf "make_class" "make_class" (defArgs s_make_class) (defBody s_make_class) (defScope s_make_class) .none kV_make_class dc_make_class pm_make_class an_make_class cd_make_class ct_make_class), sl_make_class⟩)
    (c_make_class : PySem.W.codeIn K cd_make_class "make_class" = true)
    (k_make_class : PySem.W.keepIn K (.ref f_make_class) = true)
    (a_make_longer : PySem.W.nsIn K mainGlobals "make_longer" = some (some (.ref f_make_longer)))
    (l_make_longer : K.lookup f_make_longer = some ⟨oc_make_longer, od_make_longer, .func (PySem.W.fnOf "make_longer" "make_longer" (defArgs s_make_longer) (defBody s_make_longer) (defScope s_make_longer) .none kV_make_longer dc_make_longer pm_make_longer an_make_longer cd_make_longer ct_make_longer), sl_make_longer⟩)
    (c_make_longer : PySem.W.codeIn K cd_make_longer "make_longer" = true)
    (k_make_longer : PySem.W.keepIn K (.ref f_make_longer) = true)
    (a_file_thing : PySem.W.nsIn K mainGlobals "file_thing" = some (some (.ref f_file_thing)))
    (l_file_thing : K.lookup f_file_thing = some ⟨oc_file_thing, od_file_thing, .func (PySem.W.fnOf "file_thing" "file_thing" (defArgs s_file_thing) (defBody s_file_thing) (defScope s_file_thing) .none kV_file_thing dc_file_thing pm_file_thing an_file_thing cd_file_thing ct_file_thing), sl_file_thing⟩)
    (c_file_thing : PySem.W.codeIn K cd_file_thing "file_thing" = true)
    (k_file_thing : PySem.W.keepIn K (.ref f_file_thing) = true)
    (a_add_need : PySem.W.nsIn K mainGlobals "add_need" = some (some (.ref f_add_need)))
    (l_add_need : K.lookup f_add_need = some ⟨oc_add_need, od_add_need, .func (PySem.W.fnOf "add_need" "add_need" (defArgs s_add_need) (defBody s_add_need) (defScope s_add_need) .none kV_add_need dc_add_need pm_add_need an_add_need cd_add_need ct_add_need), sl_add_need⟩)
    (c_add_need : PySem.W.codeIn K cd_add_need "add_need" = true)
    (k_add_need : PySem.W.keepIn K (.ref f_add_need) = true)
    (a_fault_of_names : PySem.W.nsIn K mainGlobals "fault_of_names" = some (some (.ref f_fault_of_names)))
    (l_fault_of_names : K.lookup f_fault_of_names = some ⟨oc_fault_of_names, od_fault_of_names, .func (PySem.W.fnOf "fault_of_names" "fault_of_names" (defArgs s_fault_of_names) (defBody s_fault_of_names) (defScope s_fault_of_names) .none kV_fault_of_names dc_fault_of_names pm_fault_of_names an_fault_of_names cd_fault_of_names ct_fault_of_names), sl_fault_of_names⟩)
    (c_fault_of_names : PySem.W.codeIn K cd_fault_of_names "fault_of_names" = true)
    (k_fault_of_names : PySem.W.keepIn K (.ref f_fault_of_names) = true)
    (a_add_names : PySem.W.nsIn K mainGlobals "add_names" = some (some (.ref f_add_names)))
    (l_add_names : K.lookup f_add_names = some ⟨oc_add_names, od_add_names, .func (PySem.W.fnOf "add_names" "add_names" (defArgs s_add_names) (defBody s_add_names) (defScope s_add_names) .none kV_add_names dc_add_names pm_add_names an_add_names cd_add_names ct_add_names), sl_add_names⟩)
    (c_add_names : PySem.W.codeIn K cd_add_names "add_names" = true)
    (k_add_names : PySem.W.keepIn K (.ref f_add_names) = true)
    (a_make_matter : PySem.W.nsIn K mainGlobals "make_matter" = some (some (.ref f_make_matter)))
    (l_make_matter : K.lookup f_make_matter = some ⟨oc_make_matter, od_make_matter, .func (PySem.W.fnOf "make_matter" "make_matter" (defArgs s_make_matter) (defBody s_make_matter) (defScope s_make_matter) .none kV_make_matter dc_make_matter pm_make_matter an_make_matter cd_make_matter ct_make_matter), sl_make_matter⟩)
    (c_make_matter : PySem.W.codeIn K cd_make_matter "make_matter" = true)
    (k_make_matter : PySem.W.keepIn K (.ref f_make_matter) = true)
    (a_fault_of_matter : PySem.W.nsIn K mainGlobals "fault_of_matter" = some (some (.ref f_fault_of_matter)))
    (l_fault_of_matter : K.lookup f_fault_of_matter = some ⟨oc_fault_of_matter, od_fault_of_matter, .func (PySem.W.fnOf "fault_of_matter" "fault_of_matter" (defArgs s_fault_of_matter) (defBody s_fault_of_matter) (defScope s_fault_of_matter) .none kV_fault_of_matter dc_fault_of_matter pm_fault_of_matter an_fault_of_matter cd_fault_of_matter ct_fault_of_matter), sl_fault_of_matter⟩)
    (c_fault_of_matter : PySem.W.codeIn K cd_fault_of_matter "fault_of_matter" = true)
    (k_fault_of_matter : PySem.W.keepIn K (.ref f_fault_of_matter) = true)
    (a_name_more : PySem.W.nsIn K mainGlobals "name_more" = some (some (.ref f_name_more)))
    (l_name_more : K.lookup f_name_more = some ⟨oc_name_more, od_name_more, .func (PySem.W.fnOf "name_more" "name_more" (defArgs s_name_more) (defBody s_name_more) (defScope s_name_more) .none kV_name_more dc_name_more pm_name_more an_name_more cd_name_more ct_name_more), sl_name_more⟩)
    (c_name_more : PySem.W.codeIn K cd_name_more "name_more" = true)
    (k_name_more : PySem.W.keepIn K (.ref f_name_more) = true)
    (a_release_matter : PySem.W.nsIn K mainGlobals "release_matter" = some (some (.ref f_release_matter)))
    (l_release_matter : K.lookup f_release_matter = some ⟨oc_release_matter, od_release_matter, .func (PySem.W.fnOf "release_matter" "release_matter" (defArgs s_release_matter) (defBody s_release_matter) (defScope s_release_matter) .none kV_release_matter dc_release_matter pm_release_matter an_release_matter cd_release_matter ct_release_matter), sl_release_matter⟩)
    (c_release_matter : PySem.W.codeIn K cd_release_matter "release_matter" = true)
    (k_release_matter : PySem.W.keepIn K (.ref f_release_matter) = true)
    (a_ask_thing : PySem.W.nsIn K mainGlobals "ask_thing" = some (some (.ref f_ask_thing)))
    (l_ask_thing : K.lookup f_ask_thing = some ⟨oc_ask_thing, od_ask_thing, .func (PySem.W.fnOf "ask_thing" "ask_thing" (defArgs s_ask_thing) (defBody s_ask_thing) (defScope s_ask_thing) .none kV_ask_thing dc_ask_thing pm_ask_thing an_ask_thing cd_ask_thing ct_ask_thing), sl_ask_thing⟩)
    (c_ask_thing : PySem.W.codeIn K cd_ask_thing "ask_thing" = true)
    (k_ask_thing : PySem.W.keepIn K (.ref f_ask_thing) = true)
    (a_tell_thing : PySem.W.nsIn K mainGlobals "tell_thing" = some (some (.ref f_tell_thing)))
    (l_tell_thing : K.lookup f_tell_thing = some ⟨oc_tell_thing, od_tell_thing, .func (PySem.W.fnOf "tell_thing" "tell_thing" (defArgs s_tell_thing) (defBody s_tell_thing) (defScope s_tell_thing) .none kV_tell_thing dc_tell_thing pm_tell_thing an_tell_thing cd_tell_thing ct_tell_thing), sl_tell_thing⟩)
    (c_tell_thing : PySem.W.codeIn K cd_tell_thing "tell_thing" = true)
    (k_tell_thing : PySem.W.keepIn K (.ref f_tell_thing) = true)
    (a_tell_when : PySem.W.nsIn K mainGlobals "tell_when" = some (some (.ref f_tell_when)))
    (l_tell_when : K.lookup f_tell_when = some ⟨oc_tell_when, od_tell_when, .func (PySem.W.fnOf "tell_when" "tell_when" (defArgs s_tell_when) (defBody s_tell_when) (defScope s_tell_when) .none kV_tell_when dc_tell_when pm_tell_when an_tell_when cd_tell_when ct_tell_when), sl_tell_when⟩)
    (c_tell_when : PySem.W.codeIn K cd_tell_when "tell_when" = true)
    (k_tell_when : PySem.W.keepIn K (.ref f_tell_when) = true)
    (a_tell_next : PySem.W.nsIn K mainGlobals "tell_next" = some (some (.ref f_tell_next)))
    (l_tell_next : K.lookup f_tell_next = some ⟨oc_tell_next, od_tell_next, .func (PySem.W.fnOf "tell_next" "tell_next" (defArgs s_tell_next) (defBody s_tell_next) (defScope s_tell_next) .none kV_tell_next dc_tell_next pm_tell_next an_tell_next cd_tell_next ct_tell_next), sl_tell_next⟩)
    (c_tell_next : PySem.W.codeIn K cd_tell_next "tell_next" = true)
    (k_tell_next : PySem.W.keepIn K (.ref f_tell_next) = true)
    (a_tell_why : PySem.W.nsIn K mainGlobals "tell_why" = some (some (.ref f_tell_why)))
    (l_tell_why : K.lookup f_tell_why = some ⟨oc_tell_why, od_tell_why, .func (PySem.W.fnOf "tell_why" "tell_why" (defArgs s_tell_why) (defBody s_tell_why) (defScope s_tell_why) .none kV_tell_why dc_tell_why pm_tell_why an_tell_why cd_tell_why ct_tell_why), sl_tell_why⟩)
    (c_tell_why : PySem.W.codeIn K cd_tell_why "tell_why" = true)
    (k_tell_why : PySem.W.keepIn K (.ref f_tell_why) = true)
    (a_tell_went : PySem.W.nsIn K mainGlobals "tell_went" = some (some (.ref f_tell_went)))
    (l_tell_went : K.lookup f_tell_went = some ⟨oc_tell_went, od_tell_went, .func (PySem.W.fnOf "tell_went" "tell_went" (defArgs s_tell_went) (defBody s_tell_went) (defScope s_tell_went) .none kV_tell_went dc_tell_went pm_tell_went an_tell_went cd_tell_went ct_tell_went), sl_tell_went⟩)
    (c_tell_went : PySem.W.codeIn K cd_tell_went "tell_went" = true)
    (k_tell_went : PySem.W.keepIn K (.ref f_tell_went) = true)
    (a_tell_told : PySem.W.nsIn K mainGlobals "tell_told" = some (some (.ref f_tell_told)))
    (l_tell_told : K.lookup f_tell_told = some ⟨oc_tell_told, od_tell_told, .func (PySem.W.fnOf "tell_told" "tell_told" (defArgs s_tell_told) (defBody s_tell_told) (defScope s_tell_told) .none kV_tell_told dc_tell_told pm_tell_told an_tell_told cd_tell_told ct_tell_told), sl_tell_told⟩)
    (c_tell_told : PySem.W.codeIn K cd_tell_told "tell_told" = true)
    (k_tell_told : PySem.W.keepIn K (.ref f_tell_told) = true)
    (a_act : PySem.W.nsIn K mainGlobals "act" = some (some (.ref f_act)))
    (l_act : K.lookup f_act = some ⟨oc_act, od_act, .func (PySem.W.fnOf "act" "act" (defArgs s_act) (defBody s_act) (defScope s_act) .none kV_act dc_act pm_act an_act cd_act ct_act), sl_act⟩)
    (c_act : PySem.W.codeIn K cd_act "act" = true)
    (k_act : PySem.W.keepIn K (.ref f_act) = true)
    (a_act_at_moment : PySem.W.nsIn K mainGlobals "act_at_moment" = some (some (.ref f_act_at_moment)))
    (l_act_at_moment : K.lookup f_act_at_moment = some ⟨oc_act_at_moment, od_act_at_moment, .func (PySem.W.fnOf "act_at_moment" "act_at_moment" (defArgs s_act_at_moment) (defBody s_act_at_moment) (defScope s_act_at_moment) .none kV_act_at_moment dc_act_at_moment pm_act_at_moment an_act_at_moment cd_act_at_moment ct_act_at_moment), sl_act_at_moment⟩)
    (c_act_at_moment : PySem.W.codeIn K cd_act_at_moment "act_at_moment" = true)
    (k_act_at_moment : PySem.W.keepIn K (.ref f_act_at_moment) = true)
    (a_tell : PySem.W.nsIn K mainGlobals "tell" = some (some (.ref f_tell)))
    (l_tell : K.lookup f_tell = some ⟨oc_tell, od_tell, .func (PySem.W.fnOf "tell" "tell" (defArgs s_tell) (defBody s_tell) (defScope s_tell) .none kV_tell dc_tell pm_tell an_tell cd_tell ct_tell), sl_tell⟩)
    (c_tell : PySem.W.codeIn K cd_tell "tell" = true)
    (k_tell : PySem.W.keepIn K (.ref f_tell) = true)
    (a_answer_call : PySem.W.nsIn K mainGlobals "answer_call" = some (some (.ref f_answer_call)))
    (l_answer_call : K.lookup f_answer_call = some ⟨oc_answer_call, od_answer_call, .func (PySem.W.fnOf "answer_call" "answer_call" (defArgs s_answer_call) (defBody s_answer_call) (defScope s_answer_call) .none kV_answer_call dc_answer_call pm_answer_call an_answer_call cd_answer_call ct_answer_call), sl_answer_call⟩)
    (c_answer_call : PySem.W.codeIn K cd_answer_call "answer_call" = true)
    (k_answer_call : PySem.W.keepIn K (.ref f_answer_call) = true)
    (a_written : PySem.W.nsIn K mainGlobals "written" = some (some (.ref f_written)))
    (l_written : K.lookup f_written = some ⟨oc_written, od_written, .func (PySem.W.fnOf "written" "written" (defArgs s_written) (defBody s_written) (defScope s_written) .none kV_written dc_written pm_written an_written cd_written ct_written), sl_written⟩)
    (c_written : PySem.W.codeIn K cd_written "written" = true)
    (k_written : PySem.W.keepIn K (.ref f_written) = true)
    (a_read_rows : PySem.W.nsIn K mainGlobals "read_rows" = some (some (.ref f_read_rows)))
    (l_read_rows : K.lookup f_read_rows = some ⟨oc_read_rows, od_read_rows, .func (PySem.W.fnOf "read_rows" "read_rows" (defArgs s_read_rows) (defBody s_read_rows) (defScope s_read_rows) .none kV_read_rows dc_read_rows pm_read_rows an_read_rows cd_read_rows ct_read_rows), sl_read_rows⟩)
    (c_read_rows : PySem.W.codeIn K cd_read_rows "read_rows" = true)
    (k_read_rows : PySem.W.keepIn K (.ref f_read_rows) = true)
    (a_answers : PySem.W.nsIn K mainGlobals "answers" = some (some (.ref f_answers)))
    (l_answers : K.lookup f_answers = some ⟨oc_answers, od_answers, .func (PySem.W.fnOf "answers" "answers" (defArgs s_answers) (defBody s_answers) (defScope s_answers) .none kV_answers dc_answers pm_answers an_answers cd_answers ct_answers), sl_answers⟩)
    (c_answers : PySem.W.codeIn K cd_answers "answers" = true)
    (k_answers : PySem.W.keepIn K (.ref f_answers) = true)
    : ∃ A, Prg K mg A pM := by
  refine ⟨⟨C_ThingClass, C_Thing, C_Matter, C_Office, a_SHAPES, (fun i => [a_SHAPES_0, a_SHAPES_1, a_SHAPES_2, a_SHAPES_3, a_SHAPES_4, a_SHAPES_5, a_SHAPES_6, a_SHAPES_7, a_SHAPES_8, a_SHAPES_9, a_SHAPES_10, a_SHAPES_11, a_SHAPES_12, a_SHAPES_13, a_SHAPES_14].getD i 0)⟩, ?_⟩
  refine ⟨⟨?t0, ?t1, ?t2, ?t3, ?t4, ?t5, ?t6, ?t7, ?t8, ?t9, ?t10, ?t11, ?t12, ?t13, ?t14, ?t15, ?t16, ?t17, ?t18, ?t19, ?t20, ?t21, ?t22, ?t23, ?t24, ?t25, ?t26, ?t27, ?t28, ?t29, ?t30, ?t31, ?t32, ?t33, ?t34, ?t35, ?t36, ?t37, ?t38, ?t39, ?t40, ?t41, ?t42, ?t43, ?t44, ?t45, ?t46, ?t47, ?t48, ?t49, ?t50, ?t51, ?t52, ?t53, ?t54, ?t55, ?t56, ?t57, ?t58, ?t59, ?t60, ?t61, ?t62, ?t63, ?t64, ?t65, ?t66, ?t67, ?t68, ?t69⟩, ?d0, ?d1, ?d2, ?d3, ?d4, ?d5, ?d6, ?d7, ?d8, ?d9, ?d10, ?d11, ?d12, ?d13, ?d14, ?d15, ?d16, ?d17, ?d18, ?d19, ?d20, ?d21, ?d22, ?d23, ?d24, ?d25, ?d26, ?d27, ?d28, ?d29, ?d30, ?d31, ?d32, ?d33, ?d34, ?d35, ?d36, ?d37, ?d38⟩
  case t0 => exact ⟨pg_ThingClass, hd_ThingClass, po_ThingClass, sa_ThingClass⟩
  case t1 => exact n_ThingClass_keep
  case t2 => exact n_ThingClass_early
  case t3 => exact ⟨pg_Thing, hd_Thing, po_Thing, sa_Thing⟩
  case t4 => exact n_Thing_which
  case t5 => exact n_Thing_filed
  case t6 => exact n_Thing_due
  case t7 => exact n_Thing_needs
  case t8 => exact n_Thing_here
  case t9 => exact n_Thing_gone_at
  case t10 => exact ⟨pg_Matter, hd_Matter, po_Matter, sa_Matter⟩
  case t11 => exact n_Matter_things
  case t12 => exact n_Matter_classes
  case t13 => exact n_Matter_stands
  case t14 => exact ⟨pg_Office, hd_Office, po_Office, sa_Office⟩
  case t15 => exact n_Office_moment
  case t16 => exact n_Office_classes
  case t17 => exact n_Office_things
  case t18 => exact n_Office_matters
  case t19 => exact n_Office_gone
  case t20 => exact ⟨_, PySem.W.mg_of X G g_WRONG⟩
  case t21 => exact ⟨_, PySem.W.mg_of X G g_TOO_MANY⟩
  case t22 => exact ⟨_, PySem.W.mg_of X G g_FULL⟩
  case t23 => exact ⟨_, PySem.W.mg_of X G g_RELEASED⟩
  case t24 => exact ⟨_, PySem.W.mg_of X G g_NOT_THERE⟩
  case t25 => exact ⟨_, PySem.W.mg_of X G g_BELOW_LAST⟩
  case t26 => exact ⟨_, PySem.W.mg_of X G g_NOT_LET⟩
  case t27 => exact ⟨_, PySem.W.mg_of X G g_KEEP_LIMIT⟩
  case t28 => exact ⟨_, PySem.W.mg_of X G g_MOST_CLASSES⟩
  case t29 => exact ⟨_, PySem.W.mg_of X G g_MOST_THINGS⟩
  case t30 => exact ⟨_, PySem.W.mg_of X G g_MOST_MATTERS⟩
  case t31 => exact ⟨_, PySem.W.mg_of X G g_MOST_NEEDS⟩
  case t32 => exact ⟨_, PySem.W.mg_of X G g_MOST_NAMED⟩
  case t33 => exact ⟨_, PySem.W.mg_of X G g_MOMENT_LIMIT⟩
  case t34 => exact ⟨_, PySem.W.mg_of X G g_MAKE_CLASS⟩
  case t35 => exact ⟨_, PySem.W.mg_of X G g_LONGER⟩
  case t36 => exact ⟨_, PySem.W.mg_of X G g_FILE⟩
  case t37 => exact ⟨_, PySem.W.mg_of X G g_NEED⟩
  case t38 => exact ⟨_, PySem.W.mg_of X G g_MATTER⟩
  case t39 => exact ⟨_, PySem.W.mg_of X G g_MORE⟩
  case t40 => exact ⟨_, PySem.W.mg_of X G g_RELEASE⟩
  case t41 => exact ⟨_, PySem.W.mg_of X G g_TICK⟩
  case t42 => exact ⟨_, PySem.W.mg_of X G g_THING⟩
  case t43 => exact ⟨_, PySem.W.mg_of X G g_WHEN⟩
  case t44 => exact ⟨_, PySem.W.mg_of X G g_NEXT⟩
  case t45 => exact ⟨_, PySem.W.mg_of X G g_WHY⟩
  case t46 => exact ⟨_, PySem.W.mg_of X G g_WENT⟩
  case t47 => exact PySem.W.mg_of X G t_SHAPES
  case t48 => exact ⟨_, _, _, l_SHAPES, rfl, rfl, (by show 15 ≤ sizeLine; decide), .cons rfl (.cons rfl (.cons rfl (.cons rfl (.cons rfl (.cons rfl (.cons rfl (.cons rfl (.cons rfl (.cons rfl (.cons rfl (.cons rfl (.cons rfl (.cons rfl (.cons rfl (.nil)))))))))))))))⟩
  case t49 => exact ⟨_, _, _, l_SHAPES_0, rfl, rfl, (by show 2 ≤ sizeLine; decide), .cons ⟨_, rfl⟩ (.cons ⟨_, rfl⟩ (.nil))⟩
  case t50 => exact ⟨_, _, _, l_SHAPES_1, rfl, rfl, (by show 2 ≤ sizeLine; decide), .cons ⟨_, rfl⟩ (.cons ⟨_, rfl⟩ (.nil))⟩
  case t51 => exact ⟨_, _, _, l_SHAPES_2, rfl, rfl, (by show 2 ≤ sizeLine; decide), .cons ⟨_, rfl⟩ (.cons ⟨_, rfl⟩ (.nil))⟩
  case t52 => exact ⟨_, _, _, l_SHAPES_3, rfl, rfl, (by show 2 ≤ sizeLine; decide), .cons ⟨_, rfl⟩ (.cons ⟨_, rfl⟩ (.nil))⟩
  case t53 => exact ⟨_, _, _, l_SHAPES_4, rfl, rfl, (by show 2 ≤ sizeLine; decide), .cons ⟨_, rfl⟩ (.cons ⟨_, rfl⟩ (.nil))⟩
  case t54 => exact ⟨_, _, _, l_SHAPES_5, rfl, rfl, (by show 2 ≤ sizeLine; decide), .cons ⟨_, rfl⟩ (.cons ⟨_, rfl⟩ (.nil))⟩
  case t55 => exact ⟨_, _, _, l_SHAPES_6, rfl, rfl, (by show 2 ≤ sizeLine; decide), .cons ⟨_, rfl⟩ (.cons ⟨_, rfl⟩ (.nil))⟩
  case t56 => exact ⟨_, _, _, l_SHAPES_7, rfl, rfl, (by show 2 ≤ sizeLine; decide), .cons ⟨_, rfl⟩ (.cons ⟨_, rfl⟩ (.nil))⟩
  case t57 => exact ⟨_, _, _, l_SHAPES_8, rfl, rfl, (by show 2 ≤ sizeLine; decide), .cons ⟨_, rfl⟩ (.cons ⟨_, rfl⟩ (.nil))⟩
  case t58 => exact ⟨_, _, _, l_SHAPES_9, rfl, rfl, (by show 2 ≤ sizeLine; decide), .cons ⟨_, rfl⟩ (.cons ⟨_, rfl⟩ (.nil))⟩
  case t59 => exact ⟨_, _, _, l_SHAPES_10, rfl, rfl, (by show 2 ≤ sizeLine; decide), .cons ⟨_, rfl⟩ (.cons ⟨_, rfl⟩ (.nil))⟩
  case t60 => exact ⟨_, _, _, l_SHAPES_11, rfl, rfl, (by show 2 ≤ sizeLine; decide), .cons ⟨_, rfl⟩ (.cons ⟨_, rfl⟩ (.nil))⟩
  case t61 => exact ⟨_, _, _, l_SHAPES_12, rfl, rfl, (by show 2 ≤ sizeLine; decide), .cons ⟨_, rfl⟩ (.cons ⟨_, rfl⟩ (.nil))⟩
  case t62 => exact ⟨_, _, _, l_SHAPES_13, rfl, rfl, (by show 2 ≤ sizeLine; decide), .cons ⟨_, rfl⟩ (.cons ⟨_, rfl⟩ (.nil))⟩
  case t63 => exact ⟨_, _, _, l_SHAPES_14, rfl, rfl, (by show 2 ≤ sizeLine; decide), .cons ⟨_, rfl⟩ (.cons ⟨_, rfl⟩ (.nil))⟩
  case t64 => exact PySem.W.mg_none_of X G b_len
  case t65 => exact PySem.W.mg_none_of X G b_list
  case t66 => exact PySem.W.mg_none_of X G b_min
  case t67 => exact PySem.W.mg_none_of X G b_range
  case t68 => exact PySem.W.mg_none_of X G b_sorted
  case t69 => exact PySem.W.mg_none_of X G b_sum
  case d0 => exact ⟨_, _, (fun_mk (st := s_is_here) l_is_here c_is_here k_is_here), PySem.W.mg_of X G a_is_here, ((fun_mk (st := s_is_here) l_is_here c_is_here k_is_here).binds (ps := ["office", "x"]) fun _ _ _ _ _ _ us hl => by obtain ⟨a, b, rfl⟩ := two_list (show us.length = 2 from hl); rfl)⟩
  case d1 => exact ⟨_, _, (fun_mk (st := s_things_here) l_things_here c_things_here k_things_here), PySem.W.mg_of X G a_things_here, ((fun_mk (st := s_things_here) l_things_here c_things_here k_things_here).binds (ps := ["office"]) fun _ _ _ _ _ _ us hl => by obtain ⟨a, rfl⟩ := one_list (show us.length = 1 from hl); rfl)⟩
  case d2 => exact ⟨_, _, (fun_mk (st := s_is_held) l_is_held c_is_held k_is_held), PySem.W.mg_of X G a_is_held, ((fun_mk (st := s_is_held) l_is_held c_is_held k_is_held).binds (ps := ["office", "x"]) fun _ _ _ _ _ _ us hl => by obtain ⟨a, b, rfl⟩ := two_list (show us.length = 2 from hl); rfl)⟩
  case d3 => exact ⟨_, _, (fun_mk (st := s_kept_by_itself) l_kept_by_itself c_kept_by_itself k_kept_by_itself), PySem.W.mg_of X G a_kept_by_itself, ((fun_mk (st := s_kept_by_itself) l_kept_by_itself c_kept_by_itself k_kept_by_itself).binds (ps := ["office", "x"]) fun _ _ _ _ _ _ us hl => by obtain ⟨a, b, rfl⟩ := two_list (show us.length = 2 from hl); rfl)⟩
  case d4 => exact ⟨_, _, (fun_mk (st := s_mark_with_needs) l_mark_with_needs c_mark_with_needs k_mark_with_needs), PySem.W.mg_of X G a_mark_with_needs, ((fun_mk (st := s_mark_with_needs) l_mark_with_needs c_mark_with_needs k_mark_with_needs).binds (ps := ["office", "x", "mark", "marks"]) fun _ _ _ _ _ _ us hl => by obtain ⟨a, b, c, d, rfl⟩ := four_list (show us.length = 4 from hl); rfl)⟩
  case d5 => exact ⟨_, _, (fun_mk (st := s_kept_things) l_kept_things c_kept_things k_kept_things), PySem.W.mg_of X G a_kept_things, ((fun_mk (st := s_kept_things) l_kept_things c_kept_things k_kept_things).binds (ps := ["office"]) fun _ _ _ _ _ _ us hl => by obtain ⟨a, rfl⟩ := one_list (show us.length = 1 from hl); rfl)⟩
  case d6 => exact ⟨_, _, (fun_mk (st := s_let_go) l_let_go c_let_go k_let_go), PySem.W.mg_of X G a_let_go, ((fun_mk (st := s_let_go) l_let_go c_let_go k_let_go).binds (ps := ["office"]) fun _ _ _ _ _ _ us hl => by obtain ⟨a, rfl⟩ := one_list (show us.length = 1 from hl); rfl)⟩
  case d7 => exact ⟨_, _, _, _, _, _, _, _, _, _, l_moments_of_going, c_moments_of_going, k_moments_of_going, PySem.W.mg_of X G a_moments_of_going, (.all fun us hl => by obtain ⟨a, rfl⟩ := one_list (show us.length = 1 from hl); rfl), h_moments_of_going⟩
  case d8 => exact ⟨_, _, (fun_mk (st := s_ThingClass___init__) l_ThingClass___init__ c_ThingClass___init__ k_ThingClass___init__), ⟨mk_ThingClass, a_ThingClass___init__, i_ThingClass___init__, kc_ThingClass⟩, PySem.W.mg_of X G a_ThingClass, ((fun_mk (st := s_ThingClass___init__) l_ThingClass___init__ c_ThingClass___init__ k_ThingClass___init__).binds (ps := ["self", "keep", "early"]) fun _ _ _ _ _ _ us hl => by obtain ⟨a, b, c, rfl⟩ := three_list (show us.length = 3 from hl); rfl)⟩
  case d9 => exact ⟨_, _, (fun_mk (st := s_Thing___init__) l_Thing___init__ c_Thing___init__ k_Thing___init__), ⟨mk_Thing, a_Thing___init__, i_Thing___init__, kc_Thing⟩, PySem.W.mg_of X G a_Thing, ((fun_mk (st := s_Thing___init__) l_Thing___init__ c_Thing___init__ k_Thing___init__).binds (ps := ["self", "which", "filed", "due", "needs"]) fun _ _ _ _ _ _ us hl => by obtain ⟨a, b, c, d, e, rfl⟩ := five_list (show us.length = 5 from hl); rfl)⟩
  case d10 => exact ⟨_, _, (fun_mk (st := s_Matter___init__) l_Matter___init__ c_Matter___init__ k_Matter___init__), ⟨mk_Matter, a_Matter___init__, i_Matter___init__, kc_Matter⟩, PySem.W.mg_of X G a_Matter, ((fun_mk (st := s_Matter___init__) l_Matter___init__ c_Matter___init__ k_Matter___init__).binds (ps := ["self"]) fun _ _ _ _ _ _ us hl => by obtain ⟨a, rfl⟩ := one_list (show us.length = 1 from hl); rfl)⟩
  case d11 => exact ⟨_, _, (fun_mk (st := s_Office___init__) l_Office___init__ c_Office___init__ k_Office___init__), ⟨mk_Office, a_Office___init__, i_Office___init__, kc_Office⟩, PySem.W.mg_of X G a_Office, ((fun_mk (st := s_Office___init__) l_Office___init__ c_Office___init__ k_Office___init__).binds (ps := ["self"]) fun _ _ _ _ _ _ us hl => by obtain ⟨a, rfl⟩ := one_list (show us.length = 1 from hl); rfl)⟩
  case d12 => exact ⟨_, _, (fun_mk (st := s_is_rising) l_is_rising c_is_rising k_is_rising), PySem.W.mg_of X G a_is_rising, ((fun_mk (st := s_is_rising) l_is_rising c_is_rising k_is_rising).binds (ps := ["numbers"]) fun _ _ _ _ _ _ us hl => by obtain ⟨a, rfl⟩ := one_list (show us.length = 1 from hl); rfl)⟩
  case d13 => exact ⟨_, _, (fun_mk (st := s_all_here) l_all_here c_all_here k_all_here), PySem.W.mg_of X G a_all_here, ((fun_mk (st := s_all_here) l_all_here c_all_here k_all_here).binds (ps := ["office", "numbers"]) fun _ _ _ _ _ _ us hl => by obtain ⟨a, b, rfl⟩ := two_list (show us.length = 2 from hl); rfl)⟩
  case d14 => exact ⟨_, _, (fun_mk (st := s_all_classes) l_all_classes c_all_classes k_all_classes), PySem.W.mg_of X G a_all_classes, ((fun_mk (st := s_all_classes) l_all_classes c_all_classes k_all_classes).binds (ps := ["office", "numbers"]) fun _ _ _ _ _ _ us hl => by obtain ⟨a, b, rfl⟩ := two_list (show us.length = 2 from hl); rfl)⟩
  case d15 => exact ⟨_, _, (fun_mk (st := s_make_class) l_make_class c_make_class k_make_class), PySem.W.mg_of X G a_make_class, ((fun_mk (st := s_make_class) l_make_class c_make_class k_make_class).binds (ps := ["office", "keep", "early"]) fun _ _ _ _ _ _ us hl => by obtain ⟨a, b, c, rfl⟩ := three_list (show us.length = 3 from hl); rfl)⟩
  case d16 => exact ⟨_, _, (fun_mk (st := s_make_longer) l_make_longer c_make_longer k_make_longer), PySem.W.mg_of X G a_make_longer, ((fun_mk (st := s_make_longer) l_make_longer c_make_longer k_make_longer).binds (ps := ["office", "which", "keep"]) fun _ _ _ _ _ _ us hl => by obtain ⟨a, b, c, rfl⟩ := three_list (show us.length = 3 from hl); rfl)⟩
  case d17 => exact ⟨_, _, (fun_mk (st := s_file_thing) l_file_thing c_file_thing k_file_thing), PySem.W.mg_of X G a_file_thing, ((fun_mk (st := s_file_thing) l_file_thing c_file_thing k_file_thing).binds (ps := ["office", "which", "needs"]) fun _ _ _ _ _ _ us hl => by obtain ⟨a, b, c, rfl⟩ := three_list (show us.length = 3 from hl); rfl)⟩
  case d18 => exact ⟨_, _, (fun_mk (st := s_add_need) l_add_need c_add_need k_add_need), PySem.W.mg_of X G a_add_need, ((fun_mk (st := s_add_need) l_add_need c_add_need k_add_need).binds (ps := ["office", "x", "y"]) fun _ _ _ _ _ _ us hl => by obtain ⟨a, b, c, rfl⟩ := three_list (show us.length = 3 from hl); rfl)⟩
  case d19 => exact ⟨_, _, (fun_mk (st := s_fault_of_names) l_fault_of_names c_fault_of_names k_fault_of_names), PySem.W.mg_of X G a_fault_of_names, ((fun_mk (st := s_fault_of_names) l_fault_of_names c_fault_of_names k_fault_of_names).binds (ps := ["office", "things", "classes"]) fun _ _ _ _ _ _ us hl => by obtain ⟨a, b, c, rfl⟩ := three_list (show us.length = 3 from hl); rfl)⟩
  case d20 => exact ⟨_, _, (fun_mk (st := s_add_names) l_add_names c_add_names k_add_names), PySem.W.mg_of X G a_add_names, ((fun_mk (st := s_add_names) l_add_names c_add_names k_add_names).binds (ps := ["matter", "things", "classes"]) fun _ _ _ _ _ _ us hl => by obtain ⟨a, b, c, rfl⟩ := three_list (show us.length = 3 from hl); rfl)⟩
  case d21 => exact ⟨_, _, (fun_mk (st := s_make_matter) l_make_matter c_make_matter k_make_matter), PySem.W.mg_of X G a_make_matter, ((fun_mk (st := s_make_matter) l_make_matter c_make_matter k_make_matter).binds (ps := ["office", "things", "classes"]) fun _ _ _ _ _ _ us hl => by obtain ⟨a, b, c, rfl⟩ := three_list (show us.length = 3 from hl); rfl)⟩
  case d22 => exact ⟨_, _, (fun_mk (st := s_fault_of_matter) l_fault_of_matter c_fault_of_matter k_fault_of_matter), PySem.W.mg_of X G a_fault_of_matter, ((fun_mk (st := s_fault_of_matter) l_fault_of_matter c_fault_of_matter k_fault_of_matter).binds (ps := ["office", "number"]) fun _ _ _ _ _ _ us hl => by obtain ⟨a, b, rfl⟩ := two_list (show us.length = 2 from hl); rfl)⟩
  case d23 => exact ⟨_, _, (fun_mk (st := s_name_more) l_name_more c_name_more k_name_more), PySem.W.mg_of X G a_name_more, ((fun_mk (st := s_name_more) l_name_more c_name_more k_name_more).binds (ps := ["office", "number", "things", "classes"]) fun _ _ _ _ _ _ us hl => by obtain ⟨a, b, c, d, rfl⟩ := four_list (show us.length = 4 from hl); rfl)⟩
  case d24 => exact ⟨_, _, (fun_mk (st := s_release_matter) l_release_matter c_release_matter k_release_matter), PySem.W.mg_of X G a_release_matter, ((fun_mk (st := s_release_matter) l_release_matter c_release_matter k_release_matter).binds (ps := ["office", "number"]) fun _ _ _ _ _ _ us hl => by obtain ⟨a, b, rfl⟩ := two_list (show us.length = 2 from hl); rfl)⟩
  case d25 => exact ⟨_, _, (fun_mk (st := s_ask_thing) l_ask_thing c_ask_thing k_ask_thing), PySem.W.mg_of X G a_ask_thing, ((fun_mk (st := s_ask_thing) l_ask_thing c_ask_thing k_ask_thing).binds (ps := ["office", "x"]) fun _ _ _ _ _ _ us hl => by obtain ⟨a, b, rfl⟩ := two_list (show us.length = 2 from hl); rfl)⟩
  case d26 => exact ⟨_, _, (fun_mk (st := s_tell_thing) l_tell_thing c_tell_thing k_tell_thing), PySem.W.mg_of X G a_tell_thing, ((fun_mk (st := s_tell_thing) l_tell_thing c_tell_thing k_tell_thing).binds (ps := ["office", "x"]) fun _ _ _ _ _ _ us hl => by obtain ⟨a, b, rfl⟩ := two_list (show us.length = 2 from hl); rfl)⟩
  case d27 => exact ⟨_, _, (fun_mk (st := s_tell_when) l_tell_when c_tell_when k_tell_when), PySem.W.mg_of X G a_tell_when, ((fun_mk (st := s_tell_when) l_tell_when c_tell_when k_tell_when).binds (ps := ["office", "x"]) fun _ _ _ _ _ _ us hl => by obtain ⟨a, b, rfl⟩ := two_list (show us.length = 2 from hl); rfl)⟩
  case d28 => exact ⟨_, _, (fun_mk (st := s_tell_next) l_tell_next c_tell_next k_tell_next), PySem.W.mg_of X G a_tell_next, ((fun_mk (st := s_tell_next) l_tell_next c_tell_next k_tell_next).binds (ps := ["office"]) fun _ _ _ _ _ _ us hl => by obtain ⟨a, rfl⟩ := one_list (show us.length = 1 from hl); rfl)⟩
  case d29 => exact ⟨_, _, (fun_mk (st := s_tell_why) l_tell_why c_tell_why k_tell_why), PySem.W.mg_of X G a_tell_why, ((fun_mk (st := s_tell_why) l_tell_why c_tell_why k_tell_why).binds (ps := ["office", "x"]) fun _ _ _ _ _ _ us hl => by obtain ⟨a, b, rfl⟩ := two_list (show us.length = 2 from hl); rfl)⟩
  case d30 => exact ⟨_, _, (fun_mk (st := s_tell_went) l_tell_went c_tell_went k_tell_went), PySem.W.mg_of X G a_tell_went, ((fun_mk (st := s_tell_went) l_tell_went c_tell_went k_tell_went).binds (ps := ["office", "i"]) fun _ _ _ _ _ _ us hl => by obtain ⟨a, b, rfl⟩ := two_list (show us.length = 2 from hl); rfl)⟩
  case d31 => exact ⟨_, _, (fun_mk (st := s_tell_told) l_tell_told c_tell_told k_tell_told), PySem.W.mg_of X G a_tell_told, ((fun_mk (st := s_tell_told) l_tell_told c_tell_told k_tell_told).binds (ps := ["office"]) fun _ _ _ _ _ _ us hl => by obtain ⟨a, rfl⟩ := one_list (show us.length = 1 from hl); rfl)⟩
  case d32 => exact ⟨_, _, (fun_mk (st := s_act) l_act c_act k_act), PySem.W.mg_of X G a_act, ((fun_mk (st := s_act) l_act c_act k_act).binds (ps := ["office", "call", "numbers", "rows"]) fun _ _ _ _ _ _ us hl => by obtain ⟨a, b, c, d, rfl⟩ := four_list (show us.length = 4 from hl); rfl)⟩
  case d33 => exact ⟨_, _, (fun_mk (st := s_act_at_moment) l_act_at_moment c_act_at_moment k_act_at_moment), PySem.W.mg_of X G a_act_at_moment, ((fun_mk (st := s_act_at_moment) l_act_at_moment c_act_at_moment k_act_at_moment).binds (ps := ["office", "call", "numbers", "rows"]) fun _ _ _ _ _ _ us hl => by obtain ⟨a, b, c, d, rfl⟩ := four_list (show us.length = 4 from hl); rfl)⟩
  case d34 => exact ⟨_, _, (fun_mk (st := s_tell) l_tell c_tell k_tell), PySem.W.mg_of X G a_tell, ((fun_mk (st := s_tell) l_tell c_tell k_tell).binds (ps := ["office", "call", "numbers"]) fun _ _ _ _ _ _ us hl => by obtain ⟨a, b, c, rfl⟩ := three_list (show us.length = 3 from hl); rfl)⟩
  case d35 => exact ⟨_, _, (fun_mk (st := s_answer_call) l_answer_call c_answer_call k_answer_call), PySem.W.mg_of X G a_answer_call, ((fun_mk (st := s_answer_call) l_answer_call c_answer_call k_answer_call).binds (ps := ["office", "call", "numbers", "rows"]) fun _ _ _ _ _ _ us hl => by obtain ⟨a, b, c, d, rfl⟩ := four_list (show us.length = 4 from hl); rfl)⟩
  case d36 => exact ⟨_, _, (fun_mk (st := s_written) l_written c_written k_written), PySem.W.mg_of X G a_written, ((fun_mk (st := s_written) l_written c_written k_written).binds (ps := ["number", "others"]) fun _ _ _ _ _ _ us hl => by obtain ⟨a, b, rfl⟩ := two_list (show us.length = 2 from hl); rfl)⟩
  case d37 => exact ⟨_, _, (fun_mk (st := s_read_rows) l_read_rows c_read_rows k_read_rows), PySem.W.mg_of X G a_read_rows, ((fun_mk (st := s_read_rows) l_read_rows c_read_rows k_read_rows).binds (ps := ["calls", "at", "many"]) fun _ _ _ _ _ _ us hl => by obtain ⟨a, b, c, rfl⟩ := three_list (show us.length = 3 from hl); rfl)⟩
  case d38 => exact ⟨_, _, (fun_mk (st := s_answers) l_answers c_answers k_answers), PySem.W.mg_of X G a_answers, ((fun_mk (st := s_answers) l_answers c_answers k_answers).binds (ps := ["calls"]) fun _ _ _ _ _ _ us hl => by obtain ⟨a, rfl⟩ := one_list (show us.length = 1 from hl); rfl)⟩
end KB

set_option Elab.async false
set_option linter.all false
set_option autoImplicit false
set_option maxRecDepth 100000
set_option maxHeartbeats 2000000
namespace KB
open PySem PySem.Spec PyProof.Rows L2
/-! ### all the defs, one upon another -/
theorem all_answers {P : Program} {w : World} {K : PySem.W.Frag} {mg : Str → Option Value} {A : Adr} {pt : Addr} (G : Prg K mg A pt) : ∃ f fd, mg "answers" = some (.ref f) ∧ (∀ (s : Shared) (us : List Value), us.length = (["calls"] : List Str).length → BindsTo s fd ⟨us, []⟩ ((["calls"] : List Str).zip us)) ∧
    ∀ base : Heap, K.In base → KL.BMain mg base → FnOk P w K mg base CX0 8 f fd ["calls"] (spAns pt K) := by
  obtain ⟨f, fd, F, m, b⟩ := G.d_answers.ex
  have hb : ∀ (s : Shared) (us : List Value), us.length = (["calls"] : List Str).length → BindsTo s fd ⟨us, []⟩ ((["calls"] : List Str).zip us) := by
    obtain ⟨oc, od, kV, doc, pm, an, cdv, ct, osl, rfl, lk, hcd⟩ := F.ex
    intro s us hl
    match us, hl with
    | [u], _ => exact .of_eq rfl
  refine ⟨f, fd, m, hb, fun base kin bm => ?_⟩
  have T := G.T
  have c_is_here : Callee P w K mg base "is_here" 1 ["office", "x"] (spIsHere A) := ok_is_here T G.d_is_here
  have c_is_held : Callee P w K mg base "is_held" 1 ["office", "x"] (spIsHeld A) := ok_is_held T G.d_is_held
  have c_own : Callee P w K mg base "kept_by_itself" 2 ["office", "x"] (spOwn A) := ok_kept_by_itself T G.d_kept_by_itself c_is_held
  have c_here : Callee P w K mg base "things_here" 1 ["office"] (spThingsHere A) := ok_things_here T G.d_things_here
  have c_mark : Callee P w K mg base "mark_with_needs" 1 ["office", "x", "mark", "marks"] (spMark A) := ok_mark_with_needs T G.d_mark_with_needs
  have c_kept : Callee P w K mg base "kept_things" 3 ["office"] (spKept A) := ok_kept_things T G.d_kept_things c_own c_here c_mark
  have c_let_go : Callee P w K mg base "let_go" 4 ["office"] (spLetGo A) := ok_let_go T G.d_let_go c_kept c_here
  have c_moments : Callee P w K mg base "moments_of_going" 3 ["office"] (spMoments A pt) := ok_moments_of_going T G.d_moments_of_going bm c_here c_is_held c_mark
  have c_rising : Callee P w K mg base "is_rising" 1 ["numbers"] (spRising K) := ok_is_rising T G.d_is_rising
  have c_all_here : Callee P w K mg base "all_here" 2 ["office", "numbers"] (spAllHere A K) := ok_all_here T G.d_all_here c_is_here
  have c_all_classes : Callee P w K mg base "all_classes" 1 ["office", "numbers"] (spAllClasses A K) := ok_all_classes T G.d_all_classes
  have m_Class : Maker P w K mg base "ThingClass" A.ThingClass 1 ["self", "keep", "early"] (spInitClass A) := ok_ThingClass T G.i_ThingClass
  have m_Thing : Maker P w K mg base "Thing" A.Thing 1 ["self", "which", "filed", "due", "needs"] (spInitThing A K) := ok_Thing T G.i_Thing
  have m_Matter : Maker P w K mg base "Matter" A.Matter 1 ["self"] (spInitMatter A) := ok_Matter T G.i_Matter
  have m_Office : Maker P w K mg base "Office" A.Office 1 ["self"] (spInitOffice A) := ok_Office T G.i_Office
  have c_make_class := ok_make_class T G.d_make_class m_Class
  have c_longer : Callee P w K mg base "make_longer" 1 ["office", "which", "keep"] (spLonger A) := ok_make_longer T G.d_make_longer
  have c_file := ok_file_thing T G.d_file_thing c_rising c_all_here m_Thing
  have c_need := ok_add_need T G.d_add_need c_is_here
  have c_names := ok_fault_of_names T G.d_fault_of_names c_rising c_all_here c_all_classes
  have c_add : Callee P w K mg base "add_names" 1 ["matter", "things", "classes"] (spAddNames A K) := ok_add_names T G.d_add_names
  have c_matter := ok_make_matter T G.d_make_matter c_names m_Matter c_add
  have c_fault : Callee P w K mg base "fault_of_matter" 1 ["office", "number"] (spMatterFault A) := ok_fault_of_matter T G.d_fault_of_matter
  have c_more := ok_name_more T G.d_name_more c_names c_fault c_add
  have c_release := ok_release_matter T G.d_release_matter c_fault
  have c_ask : Callee P w K mg base "ask_thing" 1 ["office", "x"] (spAsk A) := ok_ask_thing T G.d_ask_thing
  have c_act := ok_act T G.d_act c_file c_need c_matter c_more c_release c_ask
  have c_at := ok_act_at_moment (pt := pt) T G.d_act_at_moment c_let_go c_act
  have t1 : Callee P w K mg base "tell_thing" 1 ["office", "x"] (spTell A pt .thing) := ok_tell_thing T G.d_tell_thing
  have t2 := ok_tell_when T G.d_tell_when c_is_here c_moments
  have t3 := ok_tell_next T G.d_tell_next c_moments
  have t4 := ok_tell_why (pt := pt) T G.d_tell_why c_is_here c_is_held c_here
  have t5 : Callee P w K mg base "tell_went" 1 ["office", "i"] (spTell A pt .went) := ok_tell_went T G.d_tell_went
  have t6 : Callee P w K mg base "tell_told" 1 ["office"] (spTell0 A pt .told) := ok_tell_told T G.d_tell_told
  have c_tell := ok_tell T G.d_tell t1 t2 t3 t4 t5 t6
  have c_answer := ok_answer_call T G.d_answer_call c_make_class c_longer c_at c_tell
  have c_rows : Callee P w K mg base "read_rows" 1 ["calls", "at", "many"] (spRows K) := ok_read_rows T G.d_read_rows
  have c_written : Callee P w K mg base "written" 1 ["number", "others"] spWritten := ok_written T G.d_written
  exact ok_answers T F m_Office c_rows c_answer c_written
end KB

set_option Elab.async false
set_option linter.all false
open PySem PySem.W PyProof.Rows
/-! Names that the head's tactic would take for second forms (each with an equation whose proof grows with the square of the heap) of the program, of its view and of the heaps and trees that it writes out. Taken here, so that it goes without: the same steps, a quarter of the size. -/
/-- no twin of view_1 -/
def PySem.W.Fast.tw14478543493677070336 : Unit := ()
/-- no twin of tree_133 -/
def PySem.W.Fast.tw3979218417310461058 : Unit := ()
/-- no twin of tree_9 -/
def PySem.W.Fast.tw6545219196725000835 : Unit := ()
/-- no twin of tree_242 -/
def PySem.W.Fast.tw3031702701421988483 : Unit := ()
/-- no twin of heap_360 -/
def PySem.W.Fast.tw5979323945386527683 : Unit := ()
/-- no twin of tree_156 -/
def PySem.W.Fast.tw12370737806342683270 : Unit := ()
/-- no twin of tree_359 -/
def PySem.W.Fast.tw8045179062472941067 : Unit := ()
/-- no twin of tree_110 -/
def PySem.W.Fast.tw16727907770288309549 : Unit := ()
/-- no twin of heap_8 -/
def PySem.W.Fast.tw6899355154415902417 : Unit := ()
/-- no twin of heap_1 -/
def PySem.W.Fast.tw3889115048102537074 : Unit := ()
/-- no twin of tree_87 -/
def PySem.W.Fast.tw14462107888332460914 : Unit := ()
/-- no twin of tree_294 -/
def PySem.W.Fast.tw5991544991865631188 : Unit := ()
/-- no twin of tree_64 -/
def PySem.W.Fast.tw6126946628272378073 : Unit := ()
/-- no twin of PySem.Challenge.pw_keptuntil_s01_answers -/
def PySem.W.Fast.tw6636322265092125337 : Unit := ()
set_option maxRecDepth 100000 in
set_option maxHeartbeats 0 in
theorem PySem.Challenge.cw_keptuntil_s01_answers_holds : PySem.Challenge.rw_keptuntil_s01_answers.Holds := by
  w_on; k_headS; (case hw => exact ⟨[.list [.int 14]], by decide +kernel, by decide +kernel⟩)
  k_fillS
  refine KL.walk_tab (r := PySem.Challenge.rw_keptuntil_s01_answers) (k := 8) (CX := L2.CX0) (ps := ["calls"]) (x := "moments_of_going") (c := 65) (P := 61) (sp := KB.spAns 61) (by decide +kernel) rfl rfl ⟨rfl, by decide, by decide⟩ (fun w h Y => PySem.W.kIn_of Y) rfl (fun p => by kernel_rfl) (fun p => by kernel_rfl) ?F ?S (fun _ _ _ _ z => z)
  case F =>
    intro w mg fa h Y KX G hmg
    have T : ∃ A, KB.Prg (L2.KOf KX) mg A 61 := by
      dsimp only [L2.KOf]
      refine' KB.prg_mk KX G ?a_ThingClass ?pg_ThingClass ?hd_ThingClass ?po_ThingClass ?sa_ThingClass ?mk_ThingClass ?kc_ThingClass ?n_ThingClass_keep ?n_ThingClass_early ?a_Thing ?pg_Thing ?hd_Thing ?po_Thing ?sa_Thing ?mk_Thing ?kc_Thing ?n_Thing_which ?n_Thing_filed ?n_Thing_due ?n_Thing_needs ?n_Thing_here ?n_Thing_gone_at ?a_Matter ?pg_Matter ?hd_Matter ?po_Matter ?sa_Matter ?mk_Matter ?kc_Matter ?n_Matter_things ?n_Matter_classes ?n_Matter_stands ?a_Office ?pg_Office ?hd_Office ?po_Office ?sa_Office ?mk_Office ?kc_Office ?n_Office_moment ?n_Office_classes ?n_Office_things ?n_Office_matters ?n_Office_gone ?g_WRONG ?g_TOO_MANY ?g_FULL ?g_RELEASED ?g_NOT_THERE ?g_BELOW_LAST ?g_NOT_LET ?g_KEEP_LIMIT ?g_MOST_CLASSES ?g_MOST_THINGS ?g_MOST_MATTERS ?g_MOST_NEEDS ?g_MOST_NAMED ?g_MOMENT_LIMIT ?g_MAKE_CLASS ?g_LONGER ?g_FILE ?g_NEED ?g_MATTER ?g_MORE ?g_RELEASE ?g_TICK ?g_THING ?g_WHEN ?g_NEXT ?g_WHY ?g_WENT ?t_SHAPES ?l_SHAPES ?l_SHAPES_0 ?l_SHAPES_1 ?l_SHAPES_2 ?l_SHAPES_3 ?l_SHAPES_4 ?l_SHAPES_5 ?l_SHAPES_6 ?l_SHAPES_7 ?l_SHAPES_8 ?l_SHAPES_9 ?l_SHAPES_10 ?l_SHAPES_11 ?l_SHAPES_12 ?l_SHAPES_13 ?l_SHAPES_14 ?b_len ?b_list ?b_min ?b_range ?b_sorted ?b_sum ?a_is_here ?l_is_here ?c_is_here ?k_is_here ?a_things_here ?l_things_here ?c_things_here ?k_things_here ?a_is_held ?l_is_held ?c_is_held ?k_is_held ?a_kept_by_itself ?l_kept_by_itself ?c_kept_by_itself ?k_kept_by_itself ?a_mark_with_needs ?l_mark_with_needs ?c_mark_with_needs ?k_mark_with_needs ?a_kept_things ?l_kept_things ?c_kept_things ?k_kept_things ?a_let_go ?l_let_go ?c_let_go ?k_let_go ?a_moments_of_going ?l_moments_of_going ?c_moments_of_going ?h_moments_of_going ?k_moments_of_going ?a_ThingClass___init__ ?i_ThingClass___init__ ?l_ThingClass___init__ ?c_ThingClass___init__ ?k_ThingClass___init__ ?a_Thing___init__ ?i_Thing___init__ ?l_Thing___init__ ?c_Thing___init__ ?k_Thing___init__ ?a_Matter___init__ ?i_Matter___init__ ?l_Matter___init__ ?c_Matter___init__ ?k_Matter___init__ ?a_Office___init__ ?i_Office___init__ ?l_Office___init__ ?c_Office___init__ ?k_Office___init__ ?a_is_rising ?l_is_rising ?c_is_rising ?k_is_rising ?a_all_here ?l_all_here ?c_all_here ?k_all_here ?a_all_classes ?l_all_classes ?c_all_classes ?k_all_classes ?a_make_class ?l_make_class ?c_make_class ?k_make_class ?a_make_longer ?l_make_longer ?c_make_longer ?k_make_longer ?a_file_thing ?l_file_thing ?c_file_thing ?k_file_thing ?a_add_need ?l_add_need ?c_add_need ?k_add_need ?a_fault_of_names ?l_fault_of_names ?c_fault_of_names ?k_fault_of_names ?a_add_names ?l_add_names ?c_add_names ?k_add_names ?a_make_matter ?l_make_matter ?c_make_matter ?k_make_matter ?a_fault_of_matter ?l_fault_of_matter ?c_fault_of_matter ?k_fault_of_matter ?a_name_more ?l_name_more ?c_name_more ?k_name_more ?a_release_matter ?l_release_matter ?c_release_matter ?k_release_matter ?a_ask_thing ?l_ask_thing ?c_ask_thing ?k_ask_thing ?a_tell_thing ?l_tell_thing ?c_tell_thing ?k_tell_thing ?a_tell_when ?l_tell_when ?c_tell_when ?k_tell_when ?a_tell_next ?l_tell_next ?c_tell_next ?k_tell_next ?a_tell_why ?l_tell_why ?c_tell_why ?k_tell_why ?a_tell_went ?l_tell_went ?c_tell_went ?k_tell_went ?a_tell_told ?l_tell_told ?c_tell_told ?k_tell_told ?a_act ?l_act ?c_act ?k_act ?a_act_at_moment ?l_act_at_moment ?c_act_at_moment ?k_act_at_moment ?a_tell ?l_tell ?c_tell ?k_tell ?a_answer_call ?l_answer_call ?c_answer_call ?k_answer_call ?a_written ?l_written ?c_written ?k_written ?a_read_rows ?l_read_rows ?c_read_rows ?k_read_rows ?a_answers ?l_answers ?c_answers ?k_answers
      (case a_ThingClass => k_is)
      (case pg_ThingClass => k_is)
      (case hd_ThingClass => k_is)
      (case po_ThingClass => k_is)
      (case sa_ThingClass => k_is)
      (case mk_ThingClass => k_is)
      (case kc_ThingClass => k_is)
      (case n_ThingClass_keep => k_is)
      (case n_ThingClass_early => k_is)
      (case a_Thing => k_is)
      (case pg_Thing => k_is)
      (case hd_Thing => k_is)
      (case po_Thing => k_is)
      (case sa_Thing => k_is)
      (case mk_Thing => k_is)
      (case kc_Thing => k_is)
      (case n_Thing_which => k_is)
      (case n_Thing_filed => k_is)
      (case n_Thing_due => k_is)
      (case n_Thing_needs => k_is)
      (case n_Thing_here => k_is)
      (case n_Thing_gone_at => k_is)
      (case a_Matter => k_is)
      (case pg_Matter => k_is)
      (case hd_Matter => k_is)
      (case po_Matter => k_is)
      (case sa_Matter => k_is)
      (case mk_Matter => k_is)
      (case kc_Matter => k_is)
      (case n_Matter_things => k_is)
      (case n_Matter_classes => k_is)
      (case n_Matter_stands => k_is)
      (case a_Office => k_is)
      (case pg_Office => k_is)
      (case hd_Office => k_is)
      (case po_Office => k_is)
      (case sa_Office => k_is)
      (case mk_Office => k_is)
      (case kc_Office => k_is)
      (case n_Office_moment => k_is)
      (case n_Office_classes => k_is)
      (case n_Office_things => k_is)
      (case n_Office_matters => k_is)
      (case n_Office_gone => k_is)
      (case g_WRONG => k_is)
      (case g_TOO_MANY => k_is)
      (case g_FULL => k_is)
      (case g_RELEASED => k_is)
      (case g_NOT_THERE => k_is)
      (case g_BELOW_LAST => k_is)
      (case g_NOT_LET => k_is)
      (case g_KEEP_LIMIT => k_is)
      (case g_MOST_CLASSES => k_is)
      (case g_MOST_THINGS => k_is)
      (case g_MOST_MATTERS => k_is)
      (case g_MOST_NEEDS => k_is)
      (case g_MOST_NAMED => k_is)
      (case g_MOMENT_LIMIT => k_is)
      (case g_MAKE_CLASS => k_is)
      (case g_LONGER => k_is)
      (case g_FILE => k_is)
      (case g_NEED => k_is)
      (case g_MATTER => k_is)
      (case g_MORE => k_is)
      (case g_RELEASE => k_is)
      (case g_TICK => k_is)
      (case g_THING => k_is)
      (case g_WHEN => k_is)
      (case g_NEXT => k_is)
      (case g_WHY => k_is)
      (case g_WENT => k_is)
      (case t_SHAPES => k_is)
      (case l_SHAPES => k_is)
      (case l_SHAPES_0 => k_is)
      (case l_SHAPES_1 => k_is)
      (case l_SHAPES_2 => k_is)
      (case l_SHAPES_3 => k_is)
      (case l_SHAPES_4 => k_is)
      (case l_SHAPES_5 => k_is)
      (case l_SHAPES_6 => k_is)
      (case l_SHAPES_7 => k_is)
      (case l_SHAPES_8 => k_is)
      (case l_SHAPES_9 => k_is)
      (case l_SHAPES_10 => k_is)
      (case l_SHAPES_11 => k_is)
      (case l_SHAPES_12 => k_is)
      (case l_SHAPES_13 => k_is)
      (case l_SHAPES_14 => k_is)
      (case b_len => k_is)
      (case b_list => k_is)
      (case b_min => k_is)
      (case b_range => k_is)
      (case b_sorted => k_is)
      (case b_sum => k_is)
      (case a_is_here => k_is)
      (case l_is_here => k_is)
      (case c_is_here => k_is)
      (case k_is_here => k_is)
      (case a_things_here => k_is)
      (case l_things_here => k_is)
      (case c_things_here => k_is)
      (case k_things_here => k_is)
      (case a_is_held => k_is)
      (case l_is_held => k_is)
      (case c_is_held => k_is)
      (case k_is_held => k_is)
      (case a_kept_by_itself => k_is)
      (case l_kept_by_itself => k_is)
      (case c_kept_by_itself => k_is)
      (case k_kept_by_itself => k_is)
      (case a_mark_with_needs => k_is)
      (case l_mark_with_needs => k_is)
      (case c_mark_with_needs => k_is)
      (case k_mark_with_needs => k_is)
      (case a_kept_things => k_is)
      (case l_kept_things => k_is)
      (case c_kept_things => k_is)
      (case k_kept_things => k_is)
      (case a_let_go => k_is)
      (case l_let_go => k_is)
      (case c_let_go => k_is)
      (case k_let_go => k_is)
      (case a_moments_of_going => k_is)
      (case l_moments_of_going => k_is)
      (case c_moments_of_going => k_is)
      (case h_moments_of_going => kernel_rfl)
      (case k_moments_of_going => k_is)
      (case a_ThingClass___init__ => k_is)
      (case i_ThingClass___init__ => k_is)
      (case l_ThingClass___init__ => k_is)
      (case c_ThingClass___init__ => k_is)
      (case k_ThingClass___init__ => k_is)
      (case a_Thing___init__ => k_is)
      (case i_Thing___init__ => k_is)
      (case l_Thing___init__ => k_is)
      (case c_Thing___init__ => k_is)
      (case k_Thing___init__ => k_is)
      (case a_Matter___init__ => k_is)
      (case i_Matter___init__ => k_is)
      (case l_Matter___init__ => k_is)
      (case c_Matter___init__ => k_is)
      (case k_Matter___init__ => k_is)
      (case a_Office___init__ => k_is)
      (case i_Office___init__ => k_is)
      (case l_Office___init__ => k_is)
      (case c_Office___init__ => k_is)
      (case k_Office___init__ => k_is)
      (case a_is_rising => k_is)
      (case l_is_rising => k_is)
      (case c_is_rising => k_is)
      (case k_is_rising => k_is)
      (case a_all_here => k_is)
      (case l_all_here => k_is)
      (case c_all_here => k_is)
      (case k_all_here => k_is)
      (case a_all_classes => k_is)
      (case l_all_classes => k_is)
      (case c_all_classes => k_is)
      (case k_all_classes => k_is)
      (case a_make_class => k_is)
      (case l_make_class => k_is)
      (case c_make_class => k_is)
      (case k_make_class => k_is)
      (case a_make_longer => k_is)
      (case l_make_longer => k_is)
      (case c_make_longer => k_is)
      (case k_make_longer => k_is)
      (case a_file_thing => k_is)
      (case l_file_thing => k_is)
      (case c_file_thing => k_is)
      (case k_file_thing => k_is)
      (case a_add_need => k_is)
      (case l_add_need => k_is)
      (case c_add_need => k_is)
      (case k_add_need => k_is)
      (case a_fault_of_names => k_is)
      (case l_fault_of_names => k_is)
      (case c_fault_of_names => k_is)
      (case k_fault_of_names => k_is)
      (case a_add_names => k_is)
      (case l_add_names => k_is)
      (case c_add_names => k_is)
      (case k_add_names => k_is)
      (case a_make_matter => k_is)
      (case l_make_matter => k_is)
      (case c_make_matter => k_is)
      (case k_make_matter => k_is)
      (case a_fault_of_matter => k_is)
      (case l_fault_of_matter => k_is)
      (case c_fault_of_matter => k_is)
      (case k_fault_of_matter => k_is)
      (case a_name_more => k_is)
      (case l_name_more => k_is)
      (case c_name_more => k_is)
      (case k_name_more => k_is)
      (case a_release_matter => k_is)
      (case l_release_matter => k_is)
      (case c_release_matter => k_is)
      (case k_release_matter => k_is)
      (case a_ask_thing => k_is)
      (case l_ask_thing => k_is)
      (case c_ask_thing => k_is)
      (case k_ask_thing => k_is)
      (case a_tell_thing => k_is)
      (case l_tell_thing => k_is)
      (case c_tell_thing => k_is)
      (case k_tell_thing => k_is)
      (case a_tell_when => k_is)
      (case l_tell_when => k_is)
      (case c_tell_when => k_is)
      (case k_tell_when => k_is)
      (case a_tell_next => k_is)
      (case l_tell_next => k_is)
      (case c_tell_next => k_is)
      (case k_tell_next => k_is)
      (case a_tell_why => k_is)
      (case l_tell_why => k_is)
      (case c_tell_why => k_is)
      (case k_tell_why => k_is)
      (case a_tell_went => k_is)
      (case l_tell_went => k_is)
      (case c_tell_went => k_is)
      (case k_tell_went => k_is)
      (case a_tell_told => k_is)
      (case l_tell_told => k_is)
      (case c_tell_told => k_is)
      (case k_tell_told => k_is)
      (case a_act => k_is)
      (case l_act => k_is)
      (case c_act => k_is)
      (case k_act => k_is)
      (case a_act_at_moment => k_is)
      (case l_act_at_moment => k_is)
      (case c_act_at_moment => k_is)
      (case k_act_at_moment => k_is)
      (case a_tell => k_is)
      (case l_tell => k_is)
      (case c_tell => k_is)
      (case k_tell => k_is)
      (case a_answer_call => k_is)
      (case l_answer_call => k_is)
      (case c_answer_call => k_is)
      (case k_answer_call => k_is)
      (case a_written => k_is)
      (case l_written => k_is)
      (case c_written => k_is)
      (case k_written => k_is)
      (case a_read_rows => k_is)
      (case l_read_rows => k_is)
      (case c_read_rows => k_is)
      (case k_read_rows => k_is)
      (case a_answers => k_is)
      (case l_answers => k_is)
      (case c_answers => k_is)
      (case k_answers => k_is)
    obtain ⟨A, T⟩ := T
    obtain ⟨f, fd, hm, hb, hF⟩ := KB.all_answers (P := PySem.Challenge.rw_keptuntil_s01_answers.prog) (w := w) T
    have e : mg "answers" = some (.ref fa) := hmg
    rw [hm] at e
    cases e
    exact ⟨fd, hb, fun base k1 _ k3 => hF base k1 k3⟩
  case S =>
    intro K H H1 xs a hO hS hT hwi hask hx
    cases hx with
    | cons h1 h2 =>
      cases h2
      cases h1 with
      | lst hs ha =>
        have e := L2.ints_dw a.1 _ ha
        subst e
        have q : ((Codec.inLen 0 16000 a.1 && a.1.all (Codec.inInt 0 18446744073709551615)) && true) = true := hwi
        rw [Bool.and_eq_true, Bool.and_eq_true] at q
        exact ⟨_, a.1, rfl, L2.Same.seq hS hs, (Codec.inNat_iff.mp q.1.1).2, hask, ⟨#[], hT, trivial, .inl rfl⟩, fun H' p hp => .lst (L2.SqL.of hp) (L2.dw_ints _)⟩

