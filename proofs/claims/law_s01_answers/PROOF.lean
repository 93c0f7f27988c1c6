import PyProof.Rows.All
import Wide.All
import OpenK.AllK
import Wide.FinOn
import Open.SpecLaws
import KE.OsGo
import HandS.ForSpec
import HandS.ForMost
import HandS.WordsDict
import HandS.CallLocal
import HandS.Flow
import OpenK.KTop
import PyFlatLaws
import HandS.Walk
import PyProof.Rows.SetFrom
import PySem.Challenge.RW_mouldpress_s01_answers
/-! MpA -/
set_option Elab.async false
/-! Mathematics of assignments, no Python here. -/
namespace Mp
open Sr117

/-! ### a fold that keeps the first best -/
theorem fold_first {α : Type} (m : α → Nat) : ∀ (l : List α) (b : α), ∃ pre post, b :: l = pre ++ (l.foldl (fun best a => if m best < m a then a else best) b) :: post ∧
    (∀ x ∈ pre, m x < m (l.foldl (fun best a => if m best < m a then a else best) b)) ∧ (∀ x ∈ post, m x ≤ m (l.foldl (fun best a => if m best < m a then a else best) b))
  | [], b => ⟨[], [], rfl, by simp, by simp⟩
  | a :: l, b => by
    rw [List.foldl_cons]
    by_cases h : m b < m a
    · rw [if_pos h]
      obtain ⟨pre, post, e, h1, h2⟩ := fold_first m l a
      refine ⟨b :: pre, post, ?_, ?_, h2⟩
      · rw [e]; rfl
      · intro x hx
        rcases List.mem_cons.mp hx with rfl | hx
        · cases pre with
          | nil =>
            have e1 := (List.cons.inj e).1
            rw [← e1]; exact h
          | cons c pre =>
            have e1 := (List.cons.inj e).1
            have := h1 c (List.mem_cons_self ..)
            rw [← e1] at this
            omega
        · exact h1 x hx
    · rw [if_neg h]
      obtain ⟨pre, post, e, h1, h2⟩ := fold_first m l b
      generalize l.foldl (fun best a => if m best < m a then a else best) b = f at *
      cases pre with
      | nil =>
        obtain ⟨e1, e2⟩ := List.cons.inj e
        refine ⟨[], a :: post, ?_, by simp, ?_⟩
        · rw [← e1, e2]; rfl
        · intro x hx
          rcases List.mem_cons.mp hx with rfl | hx
          · rw [← e1]; omega
          · exact h2 x hx
      | cons c pre =>
        obtain ⟨e1, e2⟩ := List.cons.inj e
        refine ⟨c :: a :: pre, post, ?_, ?_, h2⟩
        · rw [e1, e2]; rfl
        · intro x hx
          rcases List.mem_cons.mp hx with rfl | hx
          · exact h1 x (List.mem_cons_self ..)
          · rcases List.mem_cons.mp hx with rfl | hx
            · have := h1 c (List.mem_cons_self ..)
              rw [← e1] at this
              omega
            · exact h1 x (List.mem_cons_of_mem _ hx)

/-- what the fold gives is as good as anything -/
theorem fold_le {α : Type} (m : α → Nat) (l : List α) (b : α) : ∀ x ∈ b :: l, m x ≤ m (l.foldl (fun best a => if m best < m a then a else best) b) := by
  obtain ⟨pre, post, e, h1, h2⟩ := fold_first m l b
  intro x hx
  rw [e] at hx
  rcases List.mem_append.mp hx with hx | hx
  · exact Nat.le_of_lt (h1 x hx)
  · rcases List.mem_cons.mp hx with rfl | hx
    · exact Nat.le_refl _
    · exact h2 x hx
theorem fold_mem {α : Type} (m : α → Nat) (l : List α) (b : α) : (l.foldl (fun best a => if m best < m a then a else best) b) ∈ b :: l := by
  obtain ⟨pre, post, e, h1, h2⟩ := fold_first m l b
  rw [e]
  simp
/-- the first best in a list sorted by an order is the least of the best -/
theorem fold_least {α : Type} (m : α → Nat) (lt : α → α → Prop) (l : List α) (b : α) (hs : (b :: l).Pairwise lt) (r : α) (hr : r ∈ b :: l)
    (hm : ∀ x ∈ b :: l, m x ≤ m r) (hl : ∀ x ∈ b :: l, m x = m r → ¬ lt x r) : l.foldl (fun best a => if m best < m a then a else best) b = r := by
  obtain ⟨pre, post, e, h1, h2⟩ := fold_first m l b
  have hmem := fold_mem m l b
  have hle := fold_le m l b
  generalize l.foldl (fun best a => if m best < m a then a else best) b = f at *
  have e1 : m f = m r := Nat.le_antisymm (hm f hmem) (hle r hr)
  rw [e] at hr hs
  rcases List.mem_append.mp hr with hr | hr
  · have := h1 r hr
    omega
  · rcases List.mem_cons.mp hr with rfl | hr
    · rfl
    · have := (List.pairwise_append.mp hs).2.1
      exact absurd ((List.pairwise_cons.mp this).1 r hr) (hl f hmem e1)
end Mp
/-! MpK -/
set_option Elab.async false
/-! Mathematics of the growing matching (machine -> mould), no Python here. -/
namespace Mp

/-! ### counting -/
theorem len_of_sub : ∀ (l m : List Nat), l.Nodup → (∀ x ∈ l, x ∈ m) → l.length ≤ m.length
  | [], _, _, _ => Nat.zero_le _
  | a :: l, m, hn, hs => by
    have hn' := List.nodup_cons.mp hn
    have ha : a ∈ m := hs a (List.mem_cons_self ..)
    have := len_of_sub l (m.erase a) hn'.2 (fun x hx => by
      have hne : x ≠ a := fun e => hn'.1 (e ▸ hx)
      exact (List.mem_erase_of_ne hne).mpr (hs x (List.mem_cons_of_mem _ hx)))
    have e := List.length_erase_of_mem ha
    have hp : 0 < m.length := List.length_pos_of_mem ha
    rw [List.length_cons]
    omega
theorem len_lt {l : List Nat} {n : Nat} (hn : l.Nodup) (h : ∀ x ∈ l, x < n) : l.length ≤ n := by
  have := len_of_sub l (List.range n) hn (fun x hx => List.mem_range.mpr (h x hx))
  rwa [List.length_range] at this
theorem len_split (p : Nat → Bool) : ∀ l : List Nat, (l.filter p).length + (l.filter fun x => !p x).length = l.length
  | [] => rfl
  | a :: l => by
    have := len_split p l
    cases h : p a <;> simp [List.filter_cons, h] <;> omega

/-! ### a dict from machines to moulds -/
abbrev D := List (Nat × Nat)
def look (d : D) (j : Nat) : Option Nat := (d.find? fun kv => decide (kv.1 = j)).map (·.2)
def put (d : D) (j m : Nat) : D := if (d.any fun kv => decide (kv.1 = j)) = true then d.map (fun kv => if kv.1 = j then (kv.1, m) else kv) else d ++ [(j, m)]
theorem look_nil (j : Nat) : look [] j = none := rfl
theorem look_cons (p : Nat × Nat) (d : D) (j : Nat) : look (p :: d) j = if p.1 = j then some p.2 else look d j := by
  unfold look
  by_cases h : p.1 = j <;> simp [List.find?_cons, h]
theorem any_look (j : Nat) : ∀ d : D, (d.any fun kv => decide (kv.1 = j)) = (look d j).isSome
  | [] => rfl
  | p :: d => by
    rw [List.any_cons, look_cons, any_look j d]
    by_cases h : p.1 = j <;> simp [h]
theorem look_map (j m i : Nat) : ∀ d : D, look (d.map fun kv => if kv.1 = j then (kv.1, m) else kv) i = if i = j ∧ (look d j).isSome = true then some m else look d i
  | [] => by simp [look_nil]
  | p :: d => by
    rw [List.map_cons, look_cons, look_cons, look_cons, look_map j m i d]
    by_cases h : p.1 = j
    · by_cases h2 : i = j
      · subst h2; simp [h]
      · have : ¬ p.1 = i := by omega
        have h3 : ¬ j = i := by omega
        simp [h, h2, h3]
    · by_cases h2 : i = j
      · subst h2; simp [h]
      · by_cases h3 : p.1 = i <;> simp [h, h2, h3]
theorem look_app (d : D) (j m i : Nat) (h : look d j = none) : look (d ++ [(j, m)]) i = if i = j then some m else look d i := by
  induction d with
  | nil =>
    show look [(j, m)] i = _
    rw [look_cons, look_nil]
    by_cases e : i = j
    · rw [if_pos e, if_pos e.symm]
    · rw [if_neg e, if_neg fun z => e z.symm]
  | cons p d ih =>
    rw [look_cons] at h
    by_cases hp : p.1 = j
    · simp [hp] at h
    · rw [if_neg hp] at h
      rw [List.cons_append, look_cons, look_cons, ih h]
      by_cases e : i = j
      · subst e; simp [hp]
      · by_cases h3 : p.1 = i <;> simp [h3, e]
theorem look_put (d : D) (j m i : Nat) : look (put d j m) i = if i = j then some m else look d i := by
  unfold put
  rw [any_look]
  by_cases h : (look d j).isSome = true
  · rw [if_pos h, look_map]
    by_cases e : i = j <;> simp [e, h]
  · rw [if_neg h]
    have : look d j = none := by
      cases e : look d j with
      | none => rfl
      | some x => simp [e] at h
    exact look_app d j m i this
theorem len_put (d : D) (j m : Nat) : (put d j m).length = if (look d j).isSome = true then d.length else d.length + 1 := by
  unfold put
  rw [any_look]
  by_cases h : (look d j).isSome = true <;> simp [h]
theorem look_mem {d : D} {j m : Nat} (h : look d j = some m) : (j, m) ∈ d := by
  induction d with
  | nil => simp [look_nil] at h
  | cons p d ih =>
    rw [look_cons] at h
    by_cases hp : p.1 = j
    · rw [if_pos hp] at h
      have e := Option.some.inj h
      subst hp; subst e
      exact List.mem_cons_self ..
    · rw [if_neg hp] at h
      exact List.mem_cons_of_mem _ (ih h)
theorem mem_look {d : D} {j : Nat} (hj : j ∈ d.map (·.1)) : ∃ m, look d j = some m := by
  induction d with
  | nil => simp at hj
  | cons p d ih =>
    rw [look_cons]
    by_cases hp : p.1 = j
    · exact ⟨_, if_pos hp⟩
    · rw [if_neg hp]
      rw [List.map_cons] at hj
      rcases List.mem_cons.mp hj with h | h
      · exact absurd h.symm hp
      · exact ih h
theorem look_key {d : D} {j m : Nat} (h : look d j = some m) : j ∈ d.map (·.1) := List.mem_map.mpr ⟨_, look_mem h, rfl⟩
theorem keys_put (d : D) (j m : Nat) : (put d j m).map (·.1) = if (look d j).isSome = true then d.map (·.1) else d.map (·.1) ++ [j] := by
  unfold put
  rw [any_look]
  by_cases h : (look d j).isSome = true
  · rw [if_pos h, if_pos h, List.map_map]
    refine List.map_congr_left fun kv _ => ?_
    show (if kv.1 = j then (kv.1, m) else kv).1 = kv.1
    by_cases e : kv.1 = j <;> simp [e]
  · rw [if_neg h, if_neg h, List.map_append]; rfl
theorem nodup_put {d : D} (hn : (d.map (·.1)).Nodup) (j m : Nat) : ((put d j m).map (·.1)).Nodup := by
  rw [keys_put]
  by_cases h : (look d j).isSome = true
  · rwa [if_pos h]
  · rw [if_neg h]
    refine List.nodup_append.mpr ⟨hn, by simp, fun a ha b hb e => ?_⟩
    rw [List.mem_singleton] at hb
    subst e; subst hb
    obtain ⟨m', e'⟩ := mem_look ha
    rw [e'] at h
    exact h rfl

/-! ### placing one mould more -/
abbrev R := Bool × D × List Nat
def walk (rec : D → List Nat → Nat → R) (m : Nat) : List Nat → D → List Nat → R
  | [], d, t => (false, d, t)
  | j :: js, d, t => if j ∈ t then walk rec m js d t else match look d j with
    | none => (true, put d j m, t ++ [j])
    | some m' => match rec d (t ++ [j]) m' with
      | (true, d', t') => (true, put d' j m, t')
      | (false, d', t') => walk rec m js d' t'
def place (ch : Nat → List Nat) : Nat → D → List Nat → Nat → R
  | 0, d, t, _ => (false, d, t)
  | f + 1, d, t, m => walk (place ch f) m (ch m) d t

section
variable {ch : Nat → List Nat} {nM : Nat}
/-- what a failure tells: nothing changed, all that can be reached was tried, and is taken -/
structure Fail (ch : Nat → List Nat) (nM : Nat) (d : D) (t t' : List Nat) (js : List Nat) : Prop where
  ext : ∃ u, t' = t ++ u ∧ ∀ j ∈ u, ∃ m', look d j = some m' ∧ ∀ j' ∈ ch m', j' ∈ t'
  all : ∀ j ∈ js, j ∈ t'
  nd : t'.Nodup
  lt : ∀ j ∈ t', j < nM
def FailsWell (ch : Nat → List Nat) (nM : Nat) (f : Nat) (rec : D → List Nat → Nat → R) : Prop :=
  ∀ d t m d' t', t.Nodup → (∀ j ∈ t, j < nM) → nM < f + t.length → rec d t m = (false, d', t') → d' = d ∧ Fail ch nM d t t' (ch m)
theorem walk_fail {f : Nat} {rec : D → List Nat → Nat → R} (hr : FailsWell ch nM f rec) (m : Nat) (hch : ∀ m, ∀ j ∈ ch m, j < nM) : ∀ (js : List Nat) (d : D) (t : List Nat) (d' : D) (t' : List Nat), (∀ j ∈ js, j < nM) →
    t.Nodup → (∀ j ∈ t, j < nM) → nM < f + 1 + t.length → walk rec m js d t = (false, d', t') → d' = d ∧ Fail ch nM d t t' js
  | [], d, t, d', t', _, hn, hl, _, h => by
    have h' : (false, d, t) = (false, d', t') := h
    have e1 := (Prod.mk.inj (Prod.mk.inj h').2).1
    have e2 := (Prod.mk.inj (Prod.mk.inj h').2).2
    subst e1; subst e2
    exact ⟨rfl, ⟨⟨[], by simp, by simp⟩, by simp, hn, hl⟩⟩
  | j :: js, d, t, d', t', hj, hn, hl, hf, h => by
    have hjs : ∀ j ∈ js, j < nM := fun x hx => hj x (List.mem_cons_of_mem _ hx)
    unfold walk at h
    by_cases ht : j ∈ t
    · rw [if_pos ht] at h
      obtain ⟨e, F⟩ := walk_fail hr m hch js d t d' t' hjs hn hl hf h
      refine ⟨e, ⟨F.ext, fun x hx => ?_, F.nd, F.lt⟩⟩
      rcases List.mem_cons.mp hx with rfl | hx
      · obtain ⟨u, e, _⟩ := F.ext
        rw [e]
        exact List.mem_append_left _ ht
      · exact F.all x hx
    · rw [if_neg ht] at h
      have hn1 : (t ++ [j]).Nodup := List.nodup_append.mpr ⟨hn, by simp, fun a ha b hb e => by
        rw [List.mem_singleton] at hb
        subst e; subst hb
        exact ht ha⟩
      have hl1 : ∀ x ∈ t ++ [j], x < nM := fun x hx => by
        rcases List.mem_append.mp hx with hx | hx
        · exact hl x hx
        · rw [List.mem_singleton] at hx
          subst hx
          exact hj _ (List.mem_cons_self ..)
      cases e : look d j with
      | none => rw [e] at h; simp at h
      | some m' =>
        rw [e] at h
        dsimp only at h
        cases e2 : rec d (t ++ [j]) m' with
        | mk b r =>
          obtain ⟨d1, t1⟩ := r
          rw [e2] at h
          cases b with
          | true => simp at h
          | false =>
            dsimp only at h
            obtain ⟨ed, F1⟩ := hr d (t ++ [j]) m' d1 t1 hn1 hl1 (by rw [List.length_append, List.length_singleton]; omega) e2
            subst ed
            obtain ⟨u1, eu1, g1⟩ := F1.ext
            obtain ⟨ed2, F2⟩ := walk_fail hr m hch js d1 t1 d' t' hjs F1.nd F1.lt (by rw [eu1, List.length_append, List.length_append]; omega) h
            obtain ⟨u2, eu2, g2⟩ := F2.ext
            refine ⟨ed2, ⟨⟨[j] ++ u1 ++ u2, by rw [eu2, eu1]; simp, fun x hx => ?_⟩, fun x hx => ?_, F2.nd, F2.lt⟩⟩
            · rcases List.mem_append.mp hx with hx | hx
              · rcases List.mem_append.mp hx with hx | hx
                · rw [List.mem_singleton] at hx
                  subst hx
                  exact ⟨m', e, fun j' hj' => by rw [eu2]; exact List.mem_append_left _ (F1.all j' hj')⟩
                · obtain ⟨m2, q1, q2⟩ := g1 x hx
                  exact ⟨m2, q1, fun j' hj' => by rw [eu2]; exact List.mem_append_left _ (q2 j' hj')⟩
              · exact g2 x hx
            · rcases List.mem_cons.mp hx with rfl | hx
              · rw [eu2, eu1]; simp
              · exact F2.all x hx
theorem place_fail (hch : ∀ m, ∀ j ∈ ch m, j < nM) : ∀ f, FailsWell ch nM f (place ch f)
  | 0 => fun d t m d' t' hn hl hf _ => by
    have := len_lt hn hl
    omega
  | f + 1 => fun d t m d' t' hn hl hf h => walk_fail (place_fail hch f) m hch (ch m) d t d' t' (hch m) hn hl hf h

/-- off t each mould stands on one machine at most -/
def InjOff (t : List Nat) (d : D) : Prop := ∀ j1 j2 x, j1 ∉ t → j2 ∉ t → look d j1 = some x → look d j2 = some x → j1 = j2
structure Grown (ch : Nat → List Nat) (d d' : D) (t : List Nat) (m : Nat) : Prop where
  on : ∀ j ∈ t, look d' j = look d j
  inj : InjOff t d'
  img : ∀ x j, j ∉ t → look d' j = some x → x = m ∨ ∃ j2, j2 ∉ t ∧ look d j2 = some x
  len : d'.length = d.length + 1
  nd : (d'.map (·.1)).Nodup
  edge : ∀ j x, look d' j = some x → look d j = some x ∨ j ∈ ch x
def GrowsWell (ch : Nat → List Nat) (nM : Nat) (f : Nat) (rec : D → List Nat → Nat → R) : Prop :=
  ∀ d t m d' t', t.Nodup → (∀ j ∈ t, j < nM) → nM < f + t.length → InjOff t d → (∀ j, j ∉ t → look d j ≠ some m) → (d.map (·.1)).Nodup → rec d t m = (true, d', t') → Grown ch d d' t m
theorem walk_grow {f : Nat} {rec : D → List Nat → Nat → R} (hr : GrowsWell ch nM f rec) (hr0 : FailsWell ch nM f rec) (m : Nat) (hch : ∀ m, ∀ j ∈ ch m, j < nM) : ∀ (js : List Nat) (d : D) (t : List Nat) (d' : D) (t' : List Nat), (∀ j ∈ js, j ∈ ch m) →
    t.Nodup → (∀ j ∈ t, j < nM) → nM < f + 1 + t.length → InjOff t d → (∀ j, j ∉ t → look d j ≠ some m) → (d.map (·.1)).Nodup → walk rec m js d t = (true, d', t') → Grown ch d d' t m
  | [], d, t, d', t', _, hn, hl, _, _, _, _, h => by simp [walk] at h
  | j :: js, d, t, d', t', hj, hn, hl, hf, hI, hF, hN, h => by
    have hjs : ∀ j ∈ js, j ∈ ch m := fun x hx => hj x (List.mem_cons_of_mem _ hx)
    have hjm : j ∈ ch m := hj _ (List.mem_cons_self ..)
    unfold walk at h
    by_cases ht : j ∈ t
    · rw [if_pos ht] at h
      exact walk_grow hr hr0 m hch js d t d' t' hjs hn hl hf hI hF hN h
    · rw [if_neg ht] at h
      have hn1 : (t ++ [j]).Nodup := List.nodup_append.mpr ⟨hn, by simp, fun a ha b hb e => by
        rw [List.mem_singleton] at hb
        subst e; subst hb
        exact ht ha⟩
      have hl1 : ∀ x ∈ t ++ [j], x < nM := fun x hx => by
        rcases List.mem_append.mp hx with hx | hx
        · exact hl x hx
        · rw [List.mem_singleton] at hx
          subst hx
          exact hch m _ hjm
      cases e : look d j with
      | none =>
        rw [e] at h
        dsimp only at h
        have e1 := (Prod.mk.inj (Prod.mk.inj h).2).1
        subst e1
        refine ⟨fun i hi => ?_, fun j1 j2 x h1 h2 q1 q2 => ?_, fun x i hi q => ?_, ?_, nodup_put hN j m, fun i x q => ?_⟩
        · have : i ≠ j := fun z => ht (z ▸ hi)
          rw [look_put, if_neg this]
        · rw [look_put] at q1 q2
          by_cases c1 : j1 = j
          · by_cases c2 : j2 = j
            · rw [c1, c2]
            · rw [if_pos c1] at q1; rw [if_neg c2] at q2
              have := Option.some.inj q1
              subst this
              exact absurd q2 (hF j2 h2)
          · by_cases c2 : j2 = j
            · rw [if_neg c1] at q1; rw [if_pos c2] at q2
              have := Option.some.inj q2
              subst this
              exact absurd q1 (hF j1 h1)
            · rw [if_neg c1] at q1; rw [if_neg c2] at q2
              exact hI j1 j2 x h1 h2 q1 q2
        · rw [look_put] at q
          by_cases c : i = j
          · rw [if_pos c] at q
            exact .inl (Option.some.inj q).symm
          · rw [if_neg c] at q
            exact .inr ⟨i, hi, q⟩
        · rw [len_put, e]; simp
        · rw [look_put] at q
          by_cases c : i = j
          · rw [if_pos c] at q
            have := Option.some.inj q
            subst this; subst c
            exact .inr hjm
          · rw [if_neg c] at q
            exact .inl q
      | some m' =>
        rw [e] at h
        dsimp only at h
        have hmm : m' ≠ m := fun z => hF j ht (z ▸ e)
        cases e2 : rec d (t ++ [j]) m' with
        | mk b r =>
          obtain ⟨d1, t1⟩ := r
          rw [e2] at h
          have not1 : ∀ {i : Nat}, i ∉ t ++ [j] → i ∉ t ∧ i ≠ j := fun {i} hi => ⟨fun z => hi (List.mem_append_left _ z), fun z => hi (by simp [z])⟩
          cases b with
          | true =>
            dsimp only at h
            have e1 := (Prod.mk.inj (Prod.mk.inj h).2).1
            subst e1
            have G := hr d (t ++ [j]) m' d1 t1 hn1 hl1 (by rw [List.length_append, List.length_singleton]; omega)
              (fun j1 j2 x h1 h2 => hI j1 j2 x (not1 h1).1 (not1 h2).1) (fun i hi z => (not1 hi).2 (hI i j m' (not1 hi).1 ht z e)) hN e2
            have hj1 : look d1 j = some m' := by rw [G.on j (by simp)]; exact e
            have fresh : ∀ i, i ∉ t ++ [j] → look d1 i ≠ some m := fun i hi z => by
              rcases G.img m i hi z with q | ⟨i2, h2, q⟩
              · exact hmm q.symm
              · exact hF i2 (not1 h2).1 q
            have in1 : ∀ {i : Nat}, i ∉ t → i ≠ j → i ∉ t ++ [j] := fun {i} h1 h2 z => by
              rcases List.mem_append.mp z with z | z
              · exact h1 z
              · exact h2 (List.mem_singleton.mp z)
            refine ⟨fun i hi => ?_, fun j1 j2 x h1 h2 q1 q2 => ?_, fun x i hi q => ?_, ?_, nodup_put G.nd j m, fun i x q => ?_⟩
            · have : i ≠ j := fun z => ht (z ▸ hi)
              rw [look_put, if_neg this]
              exact G.on i (List.mem_append_left _ hi)
            · rw [look_put] at q1 q2
              by_cases c1 : j1 = j
              · by_cases c2 : j2 = j
                · rw [c1, c2]
                · rw [if_pos c1] at q1; rw [if_neg c2] at q2
                  have := Option.some.inj q1
                  subst this
                  exact absurd q2 (fresh j2 (in1 h2 c2))
              · by_cases c2 : j2 = j
                · rw [if_neg c1] at q1; rw [if_pos c2] at q2
                  have := Option.some.inj q2
                  subst this
                  exact absurd q1 (fresh j1 (in1 h1 c1))
                · rw [if_neg c1] at q1; rw [if_neg c2] at q2
                  exact G.inj j1 j2 x (in1 h1 c1) (in1 h2 c2) q1 q2
            · rw [look_put] at q
              by_cases c : i = j
              · rw [if_pos c] at q
                exact .inl (Option.some.inj q).symm
              · rw [if_neg c] at q
                rcases G.img x i (in1 hi c) q with q | ⟨i2, h2, q⟩
                · subst q
                  exact .inr ⟨j, ht, e⟩
                · exact .inr ⟨i2, (not1 h2).1, q⟩
            · rw [len_put, hj1]
              exact G.len
            · rw [look_put] at q
              by_cases c : i = j
              · rw [if_pos c] at q
                have := Option.some.inj q
                subst this; subst c
                exact .inr hjm
              · rw [if_neg c] at q
                exact G.edge i x q
          | false =>
            dsimp only at h
            obtain ⟨ed, F1⟩ := hr0 d (t ++ [j]) m' d1 t1 hn1 hl1 (by rw [List.length_append, List.length_singleton]; omega) e2
            subst ed
            obtain ⟨u1, eu1, g1⟩ := F1.ext
            have sub : ∀ i, i ∈ t → i ∈ t1 := fun i hi => by rw [eu1]; exact List.mem_append_left _ (List.mem_append_left _ hi)
            have G := walk_grow hr hr0 m hch js d1 t1 d' t' hjs F1.nd F1.lt (by rw [eu1, List.length_append, List.length_append]; omega)
              (fun j1 j2 x h1 h2 => hI j1 j2 x (fun z => h1 (sub _ z)) (fun z => h2 (sub _ z))) (fun i hi => hF i fun z => hi (sub _ z)) hN h
            refine ⟨fun i hi => G.on i (sub i hi), fun j1 j2 x h1 h2 q1 q2 => ?_, fun x i hi q => ?_, G.len, G.nd, G.edge⟩
            · by_cases c1 : j1 ∈ t1
              · rw [G.on j1 c1] at q1
                by_cases c2 : j2 ∈ t1
                · rw [G.on j2 c2] at q2
                  exact hI j1 j2 x h1 h2 q1 q2
                · rcases G.img x j2 c2 q2 with z | ⟨i2, z1, z2⟩
                  · subst z
                    exact absurd q1 (hF j1 h1)
                  · have := hI j1 i2 x h1 (fun z => z1 (sub _ z)) q1 z2
                    subst this
                    exact absurd c1 z1
              · by_cases c2 : j2 ∈ t1
                · rw [G.on j2 c2] at q2
                  rcases G.img x j1 c1 q1 with z | ⟨i2, z1, z2⟩
                  · subst z
                    exact absurd q2 (hF j2 h2)
                  · have := hI j2 i2 x h2 (fun z => z1 (sub _ z)) q2 z2
                    subst this
                    exact absurd c2 z1
                · exact G.inj j1 j2 x c1 c2 q1 q2
            · by_cases c : i ∈ t1
              · rw [G.on i c] at q
                exact .inr ⟨i, hi, q⟩
              · rcases G.img x i c q with z | ⟨i2, z1, z2⟩
                · exact .inl z
                · exact .inr ⟨i2, fun z => z1 (sub _ z), z2⟩
theorem place_grow (hch : ∀ m, ∀ j ∈ ch m, j < nM) : ∀ f, GrowsWell ch nM f (place ch f)
  | 0 => fun d t m d' t' hn hl hf _ _ _ _ => by
    have := len_lt hn hl
    omega
  | f + 1 => fun d t m d' t' hn hl hf hI hF hN h => walk_grow (place_grow hch f) (place_fail hch f) m hch (ch m) d t d' t' (fun _ h => h) hn hl hf hI hF hN h
end
end Mp
/-! MpC -/
set_option Elab.async false
set_option linter.all false
/-! Mathematics: the growing matching is a largest one; assignments against covers. No Python here. -/
namespace Mp
open Sr117

theorem len_add : ∀ (l : List Nat) (a b : List Nat), l.Nodup → (∀ x ∈ l, x ∈ a ∨ x ∈ b) → l.length ≤ a.length + b.length := fun l a b hn h => by
  have := len_of_sub l (a ++ b) hn (fun x hx => List.mem_append.mpr (h x hx))
  rwa [List.length_append] at this
theorem nodup_map_on {f : Nat → Nat} : ∀ (l : List Nat), l.Nodup → (∀ x ∈ l, ∀ y ∈ l, f x = f y → x = y) → (l.map f).Nodup
  | [], _, _ => by simp
  | a :: l, hn, h => by
    have hn' := List.nodup_cons.mp hn
    rw [List.map_cons]
    refine List.nodup_cons.mpr ⟨fun hm => ?_, nodup_map_on l hn'.2 fun x hx y hy => h x (List.mem_cons_of_mem _ hx) y (List.mem_cons_of_mem _ hy)⟩
    obtain ⟨b, hb, e⟩ := List.mem_map.mp hm
    have := h b (List.mem_cons_of_mem _ hb) a (List.mem_cons_self ..) e
    subst this
    exact hn'.1 hb

/-! ### the matching, mould by mould -/
structure Max (ch : Nat → List Nat) (i : Nat) (d : D) : Prop where
  inj : InjOff [] d
  small : ∀ j x, look d j = some x → x < i
  nd : (d.map (·.1)).Nodup
  edge : ∀ j x, look d j = some x → j ∈ ch x
  cov : ∃ A B : List Nat, A.length + B.length ≤ d.length ∧ ∀ x, x < i → ∀ j ∈ ch x, x ∈ A ∨ j ∈ B
theorem max_zero (ch : Nat → List Nat) : Max ch 0 [] := ⟨fun _ _ _ _ _ h => by simp [look_nil] at h, fun _ _ h => by simp [look_nil] at h, by simp, fun _ _ h => by simp [look_nil] at h, [], [], by simp, fun x h => by omega⟩
theorem max_step {ch : Nat → List Nat} {nM i : Nat} {d d' : D} {t' : List Nat} {b : Bool} (hch : ∀ m, ∀ j ∈ ch m, j < nM) (M : Max ch i d) (h : place ch (nM + 1) d [] i = (b, d', t')) : Max ch (i + 1) d' := by
  cases b with
  | true =>
    have G := place_grow hch (nM + 1) d [] i d' t' (by simp) (by simp) (by simp) M.inj (fun j _ z => by have := M.small j i z; omega) M.nd h
    obtain ⟨A, B, hl, hc⟩ := M.cov
    have hs : ∀ j x, look d' j = some x → x < i + 1 := fun j x q => by
      rcases G.img x j (by simp) q with z | ⟨j2, _, z⟩
      · omega
      · have := M.small j2 x z
        omega
    refine ⟨G.inj, hs, G.nd, fun j x q => ?_, i :: A, B, by rw [G.len, List.length_cons]; omega, fun x hx j hj => ?_⟩
    · rcases G.edge j x q with z | z
      · exact M.edge j x z
      · exact z
    · by_cases c : x = i
      · exact .inl (by rw [c]; exact List.mem_cons_self ..)
      · rcases hc x (by omega) j hj with z | z
        · exact .inl (List.mem_cons_of_mem _ z)
        · exact .inr z
  | false =>
    obtain ⟨e, F⟩ := place_fail hch (nM + 1) d [] i d' t' (by simp) (by simp) (by simp) h
    subst e
    obtain ⟨A, B, hl, hc⟩ := M.cov
    obtain ⟨u, eu, hu⟩ := F.ext
    rw [List.nil_append] at eu
    subst eu
    -- the moulds that the search came by
    let inS : Nat → Bool := fun x => decide (x = i) || t'.any fun j => decide (look d' j = some x)
    have onT : ∀ j ∈ t', ∃ x, look d' j = some x ∧ inS x = true := fun j hj => by
      obtain ⟨x, q, _⟩ := hu j hj
      refine ⟨x, q, ?_⟩
      show (decide (x = i) || t'.any fun j => decide (look d' j = some x)) = true
      rw [Bool.or_eq_true]
      exact .inr (List.any_eq_true.mpr ⟨j, hj, decide_eq_true q⟩)
    have reach : ∀ x, inS x = true → ∀ j ∈ ch x, j ∈ t' := fun x hx j hj => by
      have hx' : (decide (x = i) || t'.any fun j => decide (look d' j = some x)) = true := hx
      rw [Bool.or_eq_true] at hx'
      rcases hx' with z | z
      · have := of_decide_eq_true z
        subst this
        exact F.all j hj
      · obtain ⟨j1, h1, q1⟩ := List.any_eq_true.mp z
        obtain ⟨m', q2, h2⟩ := hu j1 h1
        have := (of_decide_eq_true q1).symm.trans q2
        have := Option.some.inj this
        subst this
        exact h2 j hj
    let mo : Nat → Nat := fun j => (look d' j).getD 0
    -- each tried machine's pair is covered
    have count : t'.length ≤ (A.filter inS).length + (B.filter fun j => decide (j ∈ t')).length := by
      have sp := len_split (fun j => decide (j ∈ B)) t'
      have h1 : (t'.filter fun j => decide (j ∈ B)).length ≤ (B.filter fun j => decide (j ∈ t')).length := by
        refine len_of_sub _ _ (List.Nodup.sublist List.filter_sublist F.nd) fun x hx => ?_
        obtain ⟨a, b⟩ := List.mem_filter.mp hx
        exact List.mem_filter.mpr ⟨of_decide_eq_true b, decide_eq_true a⟩
      have h2 : ((t'.filter fun j => !decide (j ∈ B)).map mo).length ≤ (A.filter inS).length := by
        refine len_of_sub _ _ (nodup_map_on _ (List.Nodup.sublist List.filter_sublist F.nd) fun x hx y hy e => ?_) fun x hx => ?_
        · obtain ⟨m1, q1, _⟩ := onT x (List.mem_filter.mp hx).1
          obtain ⟨m2, q2, _⟩ := onT y (List.mem_filter.mp hy).1
          have e1 : m1 = m2 := by
            have e' : (look d' x).getD 0 = (look d' y).getD 0 := e
            rw [q1, q2] at e'
            exact e'
          subst e1
          exact M.inj x y m1 (by simp) (by simp) q1 q2
        · obtain ⟨j, hj, e⟩ := List.mem_map.mp hx
          obtain ⟨a, b⟩ := List.mem_filter.mp hj
          obtain ⟨m1, q1, s1⟩ := onT j a
          have e1 : m1 = x := by
            have e' : (look d' j).getD 0 = x := e
            rw [q1] at e'
            exact e'
          subst e1
          have nb : j ∉ B := fun z => by simp [z] at b
          rcases hc m1 (M.small j m1 q1) j (M.edge j m1 q1) with z | z
          · exact List.mem_filter.mpr ⟨z, s1⟩
          · exact absurd z nb
      rw [List.length_map] at h2
      omega
    refine ⟨M.inj, fun j x q => by have := M.small j x q; omega, M.nd, M.edge, A.filter (fun x => !inS x), t' ++ B.filter (fun j => !decide (j ∈ t')), ?_, fun x hx j hj => ?_⟩
    · have sA := len_split inS A
      have sB := len_split (fun j => decide (j ∈ t')) B
      rw [List.length_append]
      omega
    · cases c : inS x with
      | true => exact .inr (List.mem_append_left _ (reach x c j hj))
      | false =>
        have hx' : x < i := by
          have : ¬ x = i := fun z => by
            have : inS x = true := by
              show (decide (x = i) || t'.any fun j => decide (look d' j = some x)) = true
              rw [decide_eq_true z]; rfl
            rw [c] at this
            cases this
          omega
        rcases hc x hx' j hj with z | z
        · exact .inl (List.mem_filter.mpr ⟨z, by rw [c]; rfl⟩)
        · by_cases c2 : j ∈ t'
          · exact .inr (List.mem_append_left _ c2)
          · exact .inr (List.mem_append_right _ (List.mem_filter.mpr ⟨z, by simp [c2]⟩))
/-- all moulds placed, one behind another -/
def placeAll (ch : Nat → List Nat) (nM : Nat) : Nat → D
  | 0 => []
  | i + 1 => (place ch (nM + 1) (placeAll ch nM i) [] i).2.1
theorem max_all {ch : Nat → List Nat} {nM : Nat} (hch : ∀ m, ∀ j ∈ ch m, j < nM) : ∀ i, Max ch i (placeAll ch nM i)
  | 0 => max_zero ch
  | i + 1 => by
    have ih := max_all hch i
    exact max_step (b := (place ch (nM + 1) (placeAll ch nM i) [] i).1) (t' := (place ch (nM + 1) (placeAll ch nM i) [] i).2.2) hch ih rfl

/-! ### the specification's assignments -/
def Good (shop : Shop) : Nat → List Nat → Assignment → Prop
  | _, _, [] => True
  | i, used, none :: a => Good shop (i + 1) used a
  | i, used, some j :: a => Sr117.fits shop i j = true ∧ j ∉ used ∧ Good shop (i + 1) (j :: used) a
theorem fits_lt {shop : Shop} {i j : Nat} (h : Sr117.fits shop i j = true) : i < shop.moulds.length ∧ j < shop.machines.length := by
  unfold Sr117.fits at h
  rw [Bool.and_eq_true, Bool.and_eq_true] at h
  exact ⟨of_decide_eq_true h.1, of_decide_eq_true h.2.1⟩
theorem mem_from (shop : Shop) : ∀ (count i : Nat) (used : List Nat) (a : Assignment), a ∈ assignmentsFrom shop count i used ↔ a.length = count ∧ Good shop i used a
  | 0, i, used, a => by
    show a ∈ [[]] ↔ _
    rw [List.mem_singleton]
    constructor
    · rintro rfl; exact ⟨rfl, trivial⟩
    · rintro ⟨h, _⟩; exact List.eq_nil_of_length_eq_zero h
  | count + 1, i, used, a => by
    unfold assignmentsFrom
    rw [List.mem_append, List.mem_flatMap]
    constructor
    · rintro (⟨j, hj, h⟩ | h)
      · obtain ⟨b, hb, rfl⟩ := List.mem_map.mp h
        obtain ⟨h1, h2⟩ := List.mem_filter.mp hj
        rw [Bool.and_eq_true] at h2
        obtain ⟨e, g⟩ := (mem_from shop count (i + 1) (j :: used) b).mp hb
        refine ⟨by rw [List.length_cons, e], h2.1, fun z => ?_, g⟩
        have := h2.2
        rw [List.contains_iff_mem.mpr z] at this
        cases this
      · obtain ⟨b, hb, rfl⟩ := List.mem_map.mp h
        obtain ⟨e, g⟩ := (mem_from shop count (i + 1) used b).mp hb
        exact ⟨by rw [List.length_cons, e], g⟩
    · rintro ⟨e, g⟩
      cases a with
      | nil => cases e
      | cons x b =>
        have eb : b.length = count := by rw [List.length_cons] at e; omega
        cases x with
        | none => exact .inr (List.mem_map.mpr ⟨b, (mem_from shop count (i + 1) used b).mpr ⟨eb, g⟩, rfl⟩)
        | some j =>
          obtain ⟨g1, g2, g3⟩ := g
          refine .inl ⟨j, List.mem_filter.mpr ⟨List.mem_range.mpr (fits_lt g1).2, ?_⟩, List.mem_map.mpr ⟨b, (mem_from shop count (i + 1) (j :: used) b).mpr ⟨eb, g3⟩, rfl⟩⟩
          rw [Bool.and_eq_true]
          refine ⟨g1, ?_⟩
          cases c : used.contains j with
          | true => exact absurd (List.contains_iff_mem.mp c) g2
          | false => rfl
theorem mem_all (shop : Shop) (a : Assignment) : a ∈ allAssignments shop ↔ a.length = shop.moulds.length ∧ Good shop 0 [] a := mem_from shop _ 0 [] a
theorem rc_none (a : Assignment) : runningCount (none :: a) = runningCount a := by simp [runningCount]
theorem rc_some (j : Nat) (a : Assignment) : runningCount (some j :: a) = runningCount a + 1 := by simp [runningCount]
theorem rc_allnone (n : List α) : runningCount (n.map fun _ => none) = 0 := by
  induction n with
  | nil => rfl
  | cons a n ih => rw [List.map_cons, rc_none, ih]
theorem good_allnone (shop : Shop) : ∀ (n : List α) (i : Nat) (u : List Nat), Good shop i u (n.map fun _ => none)
  | [], _, _ => trivial
  | _ :: n, i, u => good_allnone shop n (i + 1) u
theorem max_of {shop : Shop} {k : Nat} (h1 : ∃ a, a.length = shop.moulds.length ∧ Good shop 0 [] a ∧ runningCount a = k) (h2 : ∀ a, a.length = shop.moulds.length → Good shop 0 [] a → runningCount a ≤ k) : maxRunning shop = k := by
  obtain ⟨a, e, g, hk⟩ := h1
  have hle := fold_le runningCount (allAssignments shop) (shop.moulds.map fun _ => none) a (List.mem_cons_of_mem _ ((mem_all shop a).mpr ⟨e, g⟩))
  have hmem := fold_mem runningCount (allAssignments shop) (shop.moulds.map fun _ => none)
  have e1 : k ≤ maxRunning shop := by rw [← hk]; exact hle
  have e2 : maxRunning shop ≤ k := by
    rcases List.mem_cons.mp hmem with z | z
    · have : maxRunning shop = 0 := by
        show runningCount (bestAssignment shop) = 0
        rw [show bestAssignment shop = _ from z]
        exact rc_allnone _
      omega
    · obtain ⟨q1, q2⟩ := (mem_all shop _).mp z
      exact h2 _ q1 q2
  omega
/-- no assignment is larger than a cover -/
theorem weak {shop : Shop} {A B : List Nat} : ∀ (a : Assignment) (i : Nat) (used : List Nat), Good shop i used a → (∀ x j, i ≤ x → x < i + a.length → Sr117.fits shop x j = true → x ∈ A ∨ j ∈ B) →
    runningCount a ≤ (A.filter fun x => decide (i ≤ x)).length + (B.filter fun j => !decide (j ∈ used)).length
  | [], _, _, _, _ => by simp [runningCount]
  | none :: a, i, used, g, hc => by
    have ih := weak a (i + 1) used g fun x j h1 h2 => hc x j (by omega) (by rw [List.length_cons]; omega)
    have : (A.filter fun x => decide (i + 1 ≤ x)).length ≤ (A.filter fun x => decide (i ≤ x)).length := by
      clear hc ih
      induction A with
      | nil => simp
      | cons y l ih2 =>
        by_cases c : i + 1 ≤ y
        · have c1 : i ≤ y := by omega
          simp only [List.filter_cons, decide_eq_true c, decide_eq_true c1, if_true, List.length_cons]
          omega
        · have e1 : decide (i + 1 ≤ y) = false := decide_eq_false c
          rw [List.filter_cons, e1, if_neg (by simp), List.filter_cons]
          split
          · rw [List.length_cons]; omega
          · exact ih2
    rw [rc_none]
    omega
  | some j :: a, i, used, ⟨g1, g2, g3⟩, hc => by
    have ih := weak a (i + 1) (j :: used) g3 fun x j h1 h2 => hc x j (by omega) (by rw [List.length_cons]; omega)
    rw [rc_some]
    have mA : ∀ l : List Nat, (l.filter fun x => decide (i + 1 ≤ x)).length + (if i ∈ l then 1 else 0) ≤ (l.filter fun x => decide (i ≤ x)).length := by
      intro l
      induction l with
      | nil => simp
      | cons y l ih2 =>
        by_cases c : i + 1 ≤ y
        · have c1 : i ≤ y := by omega
          have c2 : ¬ i = y := by omega
          simp only [List.filter_cons, decide_eq_true c, decide_eq_true c1, if_true, List.length_cons, List.mem_cons, c2, false_or]
          omega
        · by_cases c1 : i = y
          · subst c1
            have e1 : decide (i + 1 ≤ i) = false := decide_eq_false (by omega)
            have e2 : decide (i ≤ i) = true := decide_eq_true (by omega)
            simp only [List.filter_cons, e1, e2, if_true, List.length_cons, List.mem_cons, true_or]
            have : (if i ∈ l then 1 else 0 : Nat) ≤ 1 := by split <;> omega
            have e3 : (if false = true then i :: l.filter (fun x => decide (i + 1 ≤ x)) else l.filter fun x => decide (i + 1 ≤ x)) = l.filter fun x => decide (i + 1 ≤ x) := if_neg (by simp)
            rw [e3]
            omega
          · have e1 : decide (i + 1 ≤ y) = false := decide_eq_false (by omega)
            have e2 : decide (i ≤ y) = false := decide_eq_false (by omega)
            simp only [List.filter_cons, e1, e2, List.mem_cons, c1, false_or]
            exact ih2
    have mB : ∀ l : List Nat, (l.filter fun x => !decide (x ∈ j :: used)).length + (if j ∈ l then 1 else 0) ≤ (l.filter fun x => !decide (x ∈ used)).length := by
      intro l
      induction l with
      | nil => simp
      | cons y l ih2 =>
        by_cases c : y = j
        · subst c
          have e1 : (!decide (y ∈ y :: used)) = false := by simp
          have e2 : (!decide (y ∈ used)) = true := by simp [g2]
          rw [List.filter_cons, List.filter_cons, e1, e2]
          have : (if y ∈ l then 1 else 0 : Nat) ≤ 1 := by split <;> omega
          rw [if_neg (by simp), if_pos rfl, if_pos (List.mem_cons_self ..), List.length_cons]
          omega
        · have c' : ¬ j = y := fun z => c z.symm
          have e1 : (!decide (y ∈ j :: used)) = !decide (y ∈ used) := by simp [c]
          rw [List.filter_cons, List.filter_cons, e1]
          have e3 : (if j ∈ y :: l then 1 else 0 : Nat) = if j ∈ l then 1 else 0 := by simp [c']
          rw [e3]
          cases hu : !decide (y ∈ used) with
          | true => simp only [if_true, List.length_cons]; omega
          | false =>
            have f0 : ∀ (p q : List Nat), (if false = true then p else q) = q := fun p q => if_neg Bool.false_ne_true
            rw [f0, f0]; exact ih2
    have hA := mA A
    have hB := mB B
    rcases hc i j (by omega) (by rw [List.length_cons]; omega) g1 with z | z
    · rw [if_pos z] at hA
      omega
    · rw [if_pos z] at hB
      omega
theorem weak0 {shop : Shop} {A B : List Nat} {a : Assignment} (e : a.length = shop.moulds.length) (g : Good shop 0 [] a) (hc : ∀ x j, Sr117.fits shop x j = true → x ∈ A ∨ j ∈ B) : runningCount a ≤ A.length + B.length := by
  have := weak (A := A) (B := B) a 0 [] g fun x j _ _ h => hc x j h
  have h1 : (A.filter fun x => decide (0 ≤ x)).length ≤ A.length := List.length_filter_le ..
  have h2 : (B.filter fun j => !decide (j ∈ ([] : List Nat))).length ≤ B.length := List.length_filter_le ..
  omega
/-- an assignment out of a choice of machines -/
theorem good_map {shop : Shop} {g : Nat → Option Nat} (hf : ∀ x j, g x = some j → Sr117.fits shop x j = true) (hi : ∀ x y j, g x = some j → g y = some j → x = y) :
    ∀ (c i : Nat) (used : List Nat), (∀ u ∈ used, ∃ y, y < i ∧ g y = some u) → Good shop i used ((List.range' i c).map g)
  | 0, _, _, _ => trivial
  | c + 1, i, used, hu => by
    rw [List.range'_succ, List.map_cons]
    cases e : g i with
    | none => exact good_map hf hi c (i + 1) used fun u h => let ⟨y, h1, h2⟩ := hu u h; ⟨y, by omega, h2⟩
    | some j =>
      refine ⟨hf i j e, fun z => ?_, good_map hf hi c (i + 1) (j :: used) fun u h => ?_⟩
      · obtain ⟨y, h1, h2⟩ := hu j z
        have := hi i y j e h2
        omega
      · rcases List.mem_cons.mp h with rfl | h
        · exact ⟨i, by omega, e⟩
        · obtain ⟨y, h1, h2⟩ := hu u h
          exact ⟨y, by omega, h2⟩
theorem rc_map (g : Nat → Option Nat) : ∀ l : List Nat, runningCount (l.map g) = (l.filter fun x => (g x).isSome).length
  | [] => rfl
  | x :: l => by
    rw [List.map_cons, List.filter_cons]
    cases e : g x with
    | none => rw [rc_none, rc_map g l]; simp
    | some j => rw [rc_some, rc_map g l]; simp
theorem nodup_snd : ∀ (d : D), (d.map (·.1)).Nodup → (∀ p ∈ d, ∀ q ∈ d, p.2 = q.2 → p.1 = q.1) → (d.map (·.2)).Nodup
  | [], _, _ => by simp
  | p :: d, hn, hi => by
    rw [List.map_cons] at hn ⊢
    have hn' := List.nodup_cons.mp hn
    refine List.nodup_cons.mpr ⟨fun hm => ?_, nodup_snd d hn'.2 fun a ha b hb => hi a (List.mem_cons_of_mem _ ha) b (List.mem_cons_of_mem _ hb)⟩
    obtain ⟨q, hq, e⟩ := List.mem_map.mp hm
    have := hi p (List.mem_cons_self ..) q (List.mem_cons_of_mem _ hq) e.symm
    exact hn'.1 (List.mem_map.mpr ⟨q, hq, this.symm⟩)
theorem mem_is_look {d : D} (hn : (d.map (·.1)).Nodup) {j m : Nat} (h : (j, m) ∈ d) : look d j = some m := by
  induction d with
  | nil => simp at h
  | cons p d ih =>
    rw [List.map_cons] at hn
    have hn' := List.nodup_cons.mp hn
    rw [look_cons]
    rcases List.mem_cons.mp h with e | h
    · subst e
      exact if_pos rfl
    · have : ¬ p.1 = j := fun z => hn'.1 (z ▸ List.mem_map.mpr ⟨_, h, rfl⟩)
      rw [if_neg this]
      exact ih hn'.2 h
/-- which machines a mould fits -/
def fitM (shop : Shop) (i : Nat) : List Nat := (List.range shop.machines.length).filter fun j => Sr117.fits shop i j
theorem mem_fitM {shop : Shop} {i j : Nat} : j ∈ fitM shop i ↔ Sr117.fits shop i j = true := by
  unfold fitM
  rw [List.mem_filter, List.mem_range]
  exact ⟨fun h => h.2, fun h => ⟨(fits_lt h).2, h⟩⟩
/-- THE THEOREM: a matching that has a cover of its own size is a largest assignment -/
theorem max_is {shop : Shop} {d : D} (M : Max (fitM shop) shop.moulds.length d) : maxRunning shop = d.length := by
  obtain ⟨A, B, hl, hc⟩ := M.cov
  refine max_of ?_ fun a e g => Nat.le_trans (weak0 e g fun x j h => hc x (fits_lt h).1 j (mem_fitM.mpr h)) hl
  let g : Nat → Option Nat := fun x => (d.find? fun kv => decide (kv.2 = x)).map (·.1)
  have hg : ∀ x j, g x = some j → (j, x) ∈ d := fun x j h => by
    obtain ⟨kv, h1, h2⟩ := Option.map_eq_some_iff.mp h
    have m := List.mem_of_find?_eq_some h1
    have e := of_decide_eq_true (List.find?_some (p := fun kv : Nat × Nat => decide (kv.2 = x)) h1)
    obtain ⟨a, b⟩ := kv
    have h2' : a = j := h2
    have e' : b = x := e
    subst h2'; subst e'
    exact m
  have hgl : ∀ x j, g x = some j → look d j = some x := fun x j h => mem_is_look M.nd (hg x j h)
  refine ⟨(List.range' 0 shop.moulds.length).map g, by rw [List.length_map, List.length_range'], good_map (fun x j h => mem_fitM.mp (M.edge j x (hgl x j h))) (fun x y j h1 h2 => Option.some.inj ((hgl x j h1).symm.trans (hgl y j h2))) _ 0 [] (by simp), ?_⟩
  rw [rc_map]
  have nd2 : (d.map (·.2)).Nodup := nodup_snd d M.nd fun p hp q hq e => M.inj p.1 q.1 p.2 (by simp) (by simp) (mem_is_look M.nd hp) (mem_is_look M.nd (by rw [e]; exact hq))
  have nd1 : ((List.range' 0 shop.moulds.length).filter fun x => (g x).isSome).Nodup := List.Nodup.sublist List.filter_sublist (List.nodup_range' (step := 1) (s := 0))
  have s1 := len_of_sub _ (d.map (·.2)) nd1 fun x hx => by
    obtain ⟨_, h⟩ := List.mem_filter.mp hx
    obtain ⟨j, hj⟩ := Option.isSome_iff_exists.mp h
    exact List.mem_map.mpr ⟨_, hg x j hj, rfl⟩
  have s2 := len_of_sub _ ((List.range' 0 shop.moulds.length).filter fun x => (g x).isSome) nd2 fun x hx => by
    obtain ⟨p, hp, e⟩ := List.mem_map.mp hx
    subst e
    have hl2 := mem_is_look M.nd hp
    refine List.mem_filter.mpr ⟨List.mem_range'_1.mpr ⟨Nat.zero_le _, by have := M.small _ _ hl2; omega⟩, ?_⟩
    cases c : g p.2 with
    | some j => rfl
    | none =>
      have c' : (d.find? fun kv => decide (kv.2 = p.2)).map (·.1) = none := c
      rw [Option.map_eq_none_iff] at c'
      have := List.find?_eq_none.mp c' p hp
      simp at this
  rw [List.length_map] at s1 s2
  omega
theorem running_is (shop : Shop) : maxRunning shop = (placeAll (fitM shop) shop.machines.length shop.moulds.length).length :=
  max_is (max_all (fun m j h => (fits_lt (mem_fitM.mp h)).2) _)
end Mp
/-! MpB -/
set_option Elab.async false
set_option linter.all false
/-! Mathematics: what the specification's best assignment, minimum cover and deficient set are, by what they satisfy. No Python here. -/
namespace Mp
open Sr117

/-! ### the order of assignments -/
def entLt : Option Nat → Option Nat → Prop
  | some i, some j => i < j
  | some _, none => True
  | none, _ => False
def lexLt : Assignment → Assignment → Prop
  | a :: as, b :: bs => entLt a b ∨ (a = b ∧ lexLt as bs)
  | _, _ => False
theorem sorted_from (shop : Shop) : ∀ (count i : Nat) (used : List Nat), (assignmentsFrom shop count i used).Pairwise lexLt
  | 0, _, _ => by unfold assignmentsFrom; simp
  | count + 1, i, used => by
    unfold assignmentsFrom
    have cons_ok : ∀ (o : Option Nat) (l : List Assignment), l.Pairwise lexLt → (l.map fun a => o :: a).Pairwise lexLt := fun o l h =>
      List.pairwise_map.mpr (h.imp fun {a b} z => .inr ⟨rfl, z⟩)
    refine List.pairwise_append.mpr ⟨?_, cons_ok none _ (sorted_from shop count (i + 1) used), fun a ha b hb => ?_⟩
    · refine List.pairwise_flatMap.mpr ⟨fun j _ => cons_ok (some j) _ (sorted_from shop count (i + 1) (j :: used)), ?_⟩
      refine (List.Pairwise.filter _ List.pairwise_lt_range).imp fun {j k} hjk a ha b hb => ?_
      obtain ⟨a', _, rfl⟩ := List.mem_map.mp ha
      obtain ⟨b', _, rfl⟩ := List.mem_map.mp hb
      exact .inl hjk
    · obtain ⟨j, _, ha⟩ := List.mem_flatMap.mp ha
      obtain ⟨a', _, rfl⟩ := List.mem_map.mp ha
      obtain ⟨b', _, rfl⟩ := List.mem_map.mp hb
      exact .inl trivial
theorem rc_zero : ∀ {a : Assignment}, runningCount a = 0 → a = a.map fun _ => none
  | [], _ => rfl
  | none :: a, h => by
    rw [rc_none] at h
    rw [List.map_cons, ← rc_zero h]
  | some j :: a, h => by rw [rc_some] at h; omega
theorem map_none_len {α β : Type} (l : List α) (m : List β) (h : l.length = m.length) : (l.map fun _ => (none : Option Nat)) = m.map fun _ => none := by
  rw [List.map_const', List.map_const', h]
/-- the valid assignment that is as large as any, and ahead of any as large -/
theorem best_is {shop : Shop} {a : Assignment} (e : a.length = shop.moulds.length) (g : Good shop 0 [] a) (hm : ∀ b : Assignment, b.length = shop.moulds.length → Good shop 0 [] b → runningCount b ≤ runningCount a)
    (hl : ∀ b : Assignment, b.length = shop.moulds.length → Good shop 0 [] b → runningCount b = runningCount a → ¬ lexLt b a) : bestAssignment shop = a := by
  have ha := (mem_all shop a).mpr ⟨e, g⟩
  have hs := sorted_from shop shop.moulds.length 0 []
  have hf := fold_first runningCount (allAssignments shop) (shop.moulds.map fun _ => none)
  have hle := fold_le runningCount (allAssignments shop) (shop.moulds.map fun _ => none) a (List.mem_cons_of_mem _ ha)
  have hmem := fold_mem runningCount (allAssignments shop) (shop.moulds.map fun _ => none)
  show (allAssignments shop).foldl (fun best a => if runningCount best < runningCount a then a else best) (shop.moulds.map fun _ => none) = a
  generalize (allAssignments shop).foldl (fun best a => if runningCount best < runningCount a then a else best) (shop.moulds.map fun _ => none) = r at *
  obtain ⟨pre, post, ep, h1, h2⟩ := hf
  cases pre with
  | nil =>
    obtain ⟨e1, e2⟩ := List.cons.inj ep
    have z : runningCount r = 0 := by rw [← e1]; exact rc_allnone _
    rw [rc_zero (show runningCount a = 0 by omega), ← e1]
    exact map_none_len _ _ e.symm
  | cons c pre =>
    obtain ⟨_, e2⟩ := List.cons.inj ep
    have e2 : allAssignments shop = pre ++ r :: post := e2
    have hr : r ∈ allAssignments shop := by rw [e2]; simp
    obtain ⟨r1, r2⟩ := (mem_all shop r).mp hr
    have eq : runningCount r = runningCount a := Nat.le_antisymm (hm r r1 r2) hle
    rw [e2] at ha
    rcases List.mem_append.mp ha with q | q
    · have := h1 a (List.mem_cons_of_mem _ q)
      omega
    · rcases List.mem_cons.mp q with q | q
      · exact q.symm
      · have hs : (allAssignments shop).Pairwise lexLt := hs
        rw [e2] at hs
        exact absurd ((List.pairwise_cons.mp (List.pairwise_append.mp hs).2.1).1 a q) (hl r r1 r2 eq)
/-- validity, as check_assignment's own words have it -/
theorem good_iff {shop : Shop} : ∀ (a : Assignment) (i : Nat) (used : List Nat), Good shop i used a ↔ (∀ k j, a[k]? = some (some j) → Sr117.fits shop (i + k) j = true) ∧ (a.filterMap fun e => e).Nodup ∧ ∀ j ∈ a.filterMap fun e => e, j ∉ used
  | [], i, used => by simp [Good]
  | none :: a, i, used => by
    show Good shop (i + 1) used a ↔ _
    rw [good_iff a (i + 1) used]
    refine ⟨fun ⟨h1, h2, h3⟩ => ⟨fun k j e => ?_, by simpa using h2, by simpa using h3⟩, fun ⟨h1, h2, h3⟩ => ⟨fun k j e => ?_, by simpa using h2, by simpa using h3⟩⟩
    · cases k with
      | zero => simp at e
      | succ k => rw [List.getElem?_cons_succ] at e; have := h1 k j e; rwa [show i + (k + 1) = i + 1 + k by omega]
    · have := h1 (k + 1) j (by rw [List.getElem?_cons_succ]; exact e)
      rwa [show i + 1 + k = i + (k + 1) by omega]
  | some x :: a, i, used => by
    show (Sr117.fits shop i x = true ∧ x ∉ used ∧ Good shop (i + 1) (x :: used) a) ↔ _
    rw [good_iff a (i + 1) (x :: used)]
    have ef : (some x :: a).filterMap (fun e => e) = x :: a.filterMap fun e => e := rfl
    rw [ef]
    constructor
    · rintro ⟨f, u, h1, h2, h3⟩
      refine ⟨fun k j e => ?_, List.nodup_cons.mpr ⟨fun m => (h3 x m) (List.mem_cons_self ..), h2⟩, fun j hj => ?_⟩
      · cases k with
        | zero => rw [List.getElem?_cons_zero] at e; cases e; exact f
        | succ k => rw [List.getElem?_cons_succ] at e; have := h1 k j e; rwa [show i + (k + 1) = i + 1 + k by omega]
      · rcases List.mem_cons.mp hj with rfl | hj
        · exact u
        · exact fun z => h3 j hj (List.mem_cons_of_mem _ z)
    · rintro ⟨h1, h2, h3⟩
      have h2 := List.nodup_cons.mp h2
      refine ⟨h1 0 x rfl, h3 x (List.mem_cons_self ..), fun k j e => ?_, h2.2, fun j hj z => ?_⟩
      · have := h1 (k + 1) j (by rw [List.getElem?_cons_succ]; exact e)
        rwa [show i + 1 + k = i + (k + 1) by omega]
      · rcases List.mem_cons.mp z with rfl | z
        · exact h2.1 hj
        · exact h3 j (List.mem_cons_of_mem _ hj) z
theorem valid_iff {shop : Shop} {a : Assignment} : isValidAssignment shop a = true ↔ a.length = shop.moulds.length ∧ Good shop 0 [] a := by
  unfold isValidAssignment
  rw [Bool.and_eq_true, decide_eq_true_iff, Bool.and_eq_true, decide_eq_true_iff, good_iff]
  refine ⟨fun ⟨h1, h2, h3⟩ => ⟨h1, fun k j e => ?_, h3, fun _ _ => by simp⟩, fun ⟨h1, h2, h3, _⟩ => ⟨h1, ?_, h3⟩⟩
  · have hk : k < a.length := (List.getElem?_eq_some_iff.mp e).1
    have := List.all_eq_true.mp h2 k (List.mem_range.mpr hk)
    rw [List.getD_eq_getElem?_getD, e] at this
    rw [Nat.zero_add]
    exact this
  · refine List.all_eq_true.mpr fun k hk => ?_
    have hk := List.mem_range.mp hk
    obtain ⟨o, ho⟩ : ∃ o, a[k]? = some o := ⟨_, List.getElem?_eq_getElem hk⟩
    rw [List.getD_eq_getElem?_getD, ho]
    cases o with
    | none => rfl
    | some j =>
      have := h2 k j ho
      rwa [Nat.zero_add] at this

/-! ### the least of a list by a measure, among those that pass a test: the first of them -/
theorem fold_min {α : Type} (p : α → Bool) (m : α → Nat) : ∀ (pre : List α) (b c : α) (post : List α), p c = true → (∀ x ∈ pre, p x = true → m c < m x) → (∀ x ∈ post, p x = true → m c ≤ m x) → m c < m b →
    (pre ++ c :: post).foldl (fun best x => if (p x && decide (m x < m best)) = true then x else best) b = c
  | [], b, c, post, hp, _, h2, h3 => by
    rw [List.nil_append, List.foldl_cons, hp, decide_eq_true h3, Bool.and_true, if_pos rfl]
    clear h3
    induction post with
    | nil => rfl
    | cons x post ih =>
      rw [List.foldl_cons]
      have : (p x && decide (m x < m c)) = false := by
        cases hx : p x with
        | false => rfl
        | true =>
          have := h2 x (List.mem_cons_self ..) hx
          rw [decide_eq_false (by omega)]; rfl
      rw [this, if_neg Bool.false_ne_true]
      exact ih fun x hx => h2 x (List.mem_cons_of_mem _ hx)
  | x :: pre, b, c, post, hp, h1, h2, h3 => by
    rw [List.cons_append, List.foldl_cons]
    by_cases z : (p x && decide (m x < m b)) = true
    · rw [if_pos z]
      exact fold_min p m pre x c post hp (fun y hy => h1 y (List.mem_cons_of_mem _ hy)) h2 (h1 x (List.mem_cons_self ..) (Bool.and_eq_true_iff.mp z).1)
    · rw [if_neg z]
      exact fold_min p m pre b c post hp (fun y hy => h1 y (List.mem_cons_of_mem _ hy)) h2 h3
/-- the first of the largest, 0 excepted -/
theorem fold_def {α β : Type} (v : α → β) (m : α → Nat) : ∀ (pre : List α) (b : Nat × β) (c : α) (post : List α), (∀ x ∈ pre, m x < m c) → (∀ x ∈ post, m x ≤ m c) → b.1 < m c →
    (pre ++ c :: post).foldl (fun best x => if best.1 < m x then (m x, v x) else best) b = (m c, v c)
  | [], b, c, post, _, h2, h3 => by
    rw [List.nil_append, List.foldl_cons, if_pos h3]
    clear h3
    induction post with
    | nil => rfl
    | cons x post ih =>
      rw [List.foldl_cons, if_neg (by have := h2 x (List.mem_cons_self ..); show ¬ m c < m x; omega)]
      exact ih fun x hx => h2 x (List.mem_cons_of_mem _ hx)
  | x :: pre, b, c, post, h1, h2, h3 => by
    rw [List.cons_append, List.foldl_cons]
    by_cases z : b.1 < m x
    · rw [if_pos z]
      exact fold_def v m pre _ c post (fun y hy => h1 y (List.mem_cons_of_mem _ hy)) h2 (h1 x (List.mem_cons_self ..))
    · rw [if_neg z]
      exact fold_def v m pre b c post (fun y hy => h1 y (List.mem_cons_of_mem _ hy)) h2 h3
theorem fold_def0 {α β : Type} (v : α → β) (m : α → Nat) (b : β) : ∀ (l : List α), (∀ x ∈ l, m x = 0) → l.foldl (fun best x => if best.1 < m x then (m x, v x) else best) (0, b) = (0, b)
  | [], _ => rfl
  | x :: l, h => by
    rw [List.foldl_cons, if_neg (by rw [h x (List.mem_cons_self ..)]; show ¬ 0 < 0; omega)]
    exact fold_def0 v m b l fun y hy => h y (List.mem_cons_of_mem _ hy)
end Mp
/-! MpD -/
set_option Elab.async false
set_option linter.all false
/-! Mathematics of sets of moulds, in the order of their bitmasks. No Python here. -/
namespace Mp
open Sr117

/-! ### the sets in the order of their bitmasks -/
def sets : Nat → List (List Nat)
  | 0 => [[]]
  | n + 1 => sets n ++ (sets n).map fun c => c ++ [n]
theorem mask_low {n x : Nat} (h : x < 2 ^ n) : SrCommon.maskMembers (n + 1) x = SrCommon.maskMembers n x := by
  unfold SrCommon.maskMembers
  rw [List.range_succ, List.filter_append]
  have e : x / 2 ^ n % 2 = 0 := by rw [Nat.div_eq_of_lt h]
  simp [e]
theorem mask_high {n x : Nat} (h : x < 2 ^ n) : SrCommon.maskMembers (n + 1) (2 ^ n + x) = SrCommon.maskMembers n x ++ [n] := by
  unfold SrCommon.maskMembers
  rw [List.range_succ, List.filter_append]
  have e : (2 ^ n + x) / 2 ^ n % 2 = 1 := by
    rw [Nat.add_div_left _ (Nat.two_pow_pos n), Nat.div_eq_of_lt h]
  have e2 : List.filter (fun i => (2 ^ n + x) / 2 ^ i % 2 == 1) [n] = [n] := by simp [e]
  rw [e2]
  congr 1
  refine List.filter_congr fun i hi => ?_
  have hi : i < n := List.mem_range.mp hi
  obtain ⟨d, rfl⟩ : ∃ d, n = i + (d + 1) := ⟨n - i - 1, by omega⟩
  have e3 : (2 ^ (i + (d + 1)) + x) / 2 ^ i = 2 * 2 ^ d + x / 2 ^ i := by
    rw [Nat.pow_add, Nat.mul_add_div (Nat.two_pow_pos i), Nat.pow_succ, Nat.mul_comm (2 ^ d) 2]
  rw [e3, Nat.mul_add_mod]
theorem sets_is : ∀ n, sets n = (List.range (2 ^ n)).map (SrCommon.maskMembers n)
  | 0 => rfl
  | n + 1 => by
    have e : 2 ^ (n + 1) = 2 ^ n + 2 ^ n := by rw [Nat.pow_succ]; omega
    rw [sets, sets_is n, e, List.range_add, List.map_append, List.map_map, List.map_map]
    congr 1
    · exact List.map_congr_left fun x hx => (mask_low (List.mem_range.mp hx)).symm
    · exact List.map_congr_left fun x hx => (mask_high (List.mem_range.mp hx)).symm
theorem filter_mem_sets (p : Nat → Bool) : ∀ n, (List.range n).filter p ∈ sets n
  | 0 => by simp [sets]
  | n + 1 => by
    rw [List.range_succ, List.filter_append, sets]
    have ih := filter_mem_sets p n
    cases h : p n with
    | true =>
      have e : List.filter p [n] = [n] := by simp [h]
      rw [e]
      exact List.mem_append_right _ (List.mem_map.mpr ⟨_, ih, rfl⟩)
    | false =>
      have e : List.filter p [n] = [] := by simp [h]
      rw [e, List.append_nil]
      exact List.mem_append_left _ ih
theorem of_mem_sets {n : Nat} {c : List Nat} (h : c ∈ sets n) : ∃ p : Nat → Bool, c = (List.range n).filter p := by
  rw [sets_is] at h
  obtain ⟨x, _, rfl⟩ := List.mem_map.mp h
  exact ⟨_, rfl⟩
theorem sets_lt {n : Nat} {c : List Nat} (h : c ∈ sets n) : ∀ i ∈ c, i < n := by
  obtain ⟨p, rfl⟩ := of_mem_sets h
  intro i hi
  exact List.mem_range.mp (List.mem_filter.mp hi).1
theorem sets_head : ∀ n, ∃ t, sets n = [] :: t
  | 0 => ⟨[], rfl⟩
  | n + 1 => by
    obtain ⟨t, e⟩ := sets_head n
    exact ⟨t ++ (sets n).map fun c => c ++ [n], by rw [sets, e]; rfl⟩
theorem sets_len : ∀ n, (sets n).length = 2 ^ n
  | n => by rw [sets_is, List.length_map, List.length_range]

/-! ### the deficient set -/
def dfc (shop : Shop) (c : List Nat) : Nat := c.length - (neighbours shop c).length
def defStep (shop : Shop) (best c : List Nat) : List Nat := if dfc shop best < dfc shop c then c else best
def bestDef (shop : Shop) : List Nat := (sets shop.moulds.length).foldl (defStep shop) []
theorem fold_pair {α : Type} (m : α → Nat) (b : α) : ∀ (l : List α) (b : α), l.foldl (fun (best : Nat × α) x => if best.1 < m x then (m x, x) else best) (m b, b) = (m (l.foldl (fun best x => if m best < m x then x else best) b), l.foldl (fun best x => if m best < m x then x else best) b)
  | [], b => rfl
  | x :: l, b => by
    rw [List.foldl_cons, List.foldl_cons]
    by_cases h : m b < m x
    · rw [if_pos h, if_pos h]; exact fold_pair m b l x
    · rw [if_neg h, if_neg h]; exact fold_pair m b l b
theorem def_is (shop : Shop) : maxDeficiency shop = (dfc shop (bestDef shop), bestDef shop) := by
  have h := fold_pair (dfc shop) [] (sets shop.moulds.length) []
  have e : dfc shop [] = 0 := by simp [dfc]
  rw [e, sets_is, List.foldl_map] at h
  unfold bestDef
  rw [sets_is]
  exact h

/-! ### covers -/
def others (n : Nat) (c : List Nat) : List Nat := (List.range n).filter fun i => !c.contains i
def rest (shop : Shop) (c : List Nat) : List Nat := neighbours shop (others shop.moulds.length c)
theorem mem_nb {shop : Shop} {c : List Nat} {j : Nat} : j ∈ neighbours shop c ↔ ∃ i ∈ c, Sr117.fits shop i j = true := by
  unfold neighbours
  rw [List.mem_filter, List.any_eq_true]
  refine ⟨fun h => h.2, fun h => ⟨?_, h⟩⟩
  obtain ⟨i, _, hf⟩ := h
  exact List.mem_range.mpr (fits_lt hf).2
theorem mem_others {n : Nat} {c : List Nat} {i : Nat} : i ∈ others n c ↔ i < n ∧ i ∉ c := by
  unfold others
  rw [List.mem_filter, List.mem_range]
  simp
theorem mem_rest {shop : Shop} {c : List Nat} {j : Nat} : j ∈ rest shop c ↔ ∃ i, i ∉ c ∧ Sr117.fits shop i j = true := by
  unfold rest
  rw [mem_nb]
  refine ⟨fun ⟨i, h1, h2⟩ => ⟨i, (mem_others.mp h1).2, h2⟩, fun ⟨i, h1, h2⟩ => ⟨i, mem_others.mpr ⟨(fits_lt h2).1, h1⟩, h2⟩⟩
theorem cover_iff {shop : Shop} {A B : List Nat} : isCover shop A B = true ↔ ∀ j ∈ rest shop A, j ∈ B := by
  unfold isCover
  rw [List.all_eq_true]
  constructor
  · intro h j hj
    obtain ⟨i, hi, hf⟩ := mem_rest.mp hj
    have h1 := List.all_eq_true.mp (h i (List.mem_range.mpr (fits_lt hf).1)) j (List.mem_range.mpr (fits_lt hf).2)
    rw [hf] at h1
    have ec : A.contains i = false := by
      cases e : A.contains i with
      | false => rfl
      | true => exact absurd (List.contains_iff_mem.mp e) hi
    rw [ec] at h1
    exact List.contains_iff_mem.mp (by simpa using h1)
  · intro h i _
    rw [List.all_eq_true]
    intro j _
    cases hf : Sr117.fits shop i j with
    | false => rfl
    | true =>
      by_cases hi : i ∈ A
      · have := List.contains_iff_mem.mpr hi
        rw [this]; rfl
      · have := List.contains_iff_mem.mpr (h j (mem_rest.mpr ⟨i, hi, hf⟩))
        rw [this]
        cases A.contains i <;> rfl
theorem cover_all {shop : Shop} {A B : List Nat} : isCover shop A B = (rest shop A).all fun j => B.contains j := by
  rw [Bool.eq_iff_iff, cover_iff, List.all_eq_true]
  exact ⟨fun h j hj => List.contains_iff_mem.mpr (h j hj), fun h j hj => List.contains_iff_mem.mp (h j hj)⟩
def csz (shop : Shop) (c : List Nat) : Nat := c.length + (rest shop c).length
def covStep (shop : Shop) (best c : List Nat) : List Nat := if csz shop c < csz shop best then c else best
def bestCov (shop : Shop) : List Nat := (sets shop.moulds.length).foldl (covStep shop) []
/-- the first of the least -/
theorem fold_least1 {α : Type} (m : α → Nat) : ∀ (l : List α) (b : α), ∃ pre post, b :: l = pre ++ (l.foldl (fun best a => if m a < m best then a else best) b) :: post ∧
    (∀ x ∈ pre, m (l.foldl (fun best a => if m a < m best then a else best) b) < m x) ∧ (∀ x ∈ post, m (l.foldl (fun best a => if m a < m best then a else best) b) ≤ m x)
  | [], b => ⟨[], [], rfl, by simp, by simp⟩
  | a :: l, b => by
    rw [List.foldl_cons]
    by_cases h : m a < m b
    · rw [if_pos h]
      obtain ⟨pre, post, e, h1, h2⟩ := fold_least1 m l a
      refine ⟨b :: pre, post, by rw [e]; rfl, ?_, h2⟩
      intro x hx
      rcases List.mem_cons.mp hx with rfl | hx
      · cases pre with
        | nil =>
          have e1 := (List.cons.inj e).1
          rw [← e1]; exact h
        | cons c pre =>
          have e1 := (List.cons.inj e).1
          have := h1 c (List.mem_cons_self ..)
          rw [← e1] at this
          omega
      · exact h1 x hx
    · rw [if_neg h]
      obtain ⟨pre, post, e, h1, h2⟩ := fold_least1 m l b
      generalize l.foldl (fun best a => if m a < m best then a else best) b = f at *
      cases pre with
      | nil =>
        obtain ⟨e1, e2⟩ := List.cons.inj e
        refine ⟨[], a :: post, by rw [← e1, e2]; rfl, by simp, ?_⟩
        intro x hx
        rcases List.mem_cons.mp hx with rfl | hx
        · rw [← e1]; omega
        · exact h2 x hx
      | cons c pre =>
        obtain ⟨e1, e2⟩ := List.cons.inj e
        refine ⟨c :: a :: pre, post, by rw [e1, e2]; rfl, ?_, h2⟩
        intro x hx
        rcases List.mem_cons.mp hx with rfl | hx
        · exact h1 x (List.mem_cons_self ..)
        · rcases List.mem_cons.mp hx with rfl | hx
          · have := h1 c (List.mem_cons_self ..)
            rw [← e1] at this
            omega
          · exact h1 x (List.mem_cons_of_mem _ hx)
theorem cov_first (shop : Shop) : ∃ pre post, sets shop.moulds.length = pre ++ bestCov shop :: post ∧ (∀ x ∈ pre, csz shop (bestCov shop) < csz shop x) ∧ (∀ x ∈ post, csz shop (bestCov shop) ≤ csz shop x) := by
  obtain ⟨t, e⟩ := sets_head shop.moulds.length
  have e2 : bestCov shop = t.foldl (fun best a => if csz shop a < csz shop best then a else best) [] := by
    unfold bestCov
    rw [e, List.foldl_cons]
    unfold covStep
    rw [if_neg (Nat.lt_irrefl _)]
  obtain ⟨pre, post, h⟩ := fold_least1 (csz shop) t []
  rw [← e2, ← e] at h
  exact ⟨pre, post, h⟩
theorem filter_sub {p q : Nat → Bool} {l : List Nat} (h : ∀ x ∈ l.filter p, x ∈ l.filter q) : (l.filter p).length ≤ (l.filter q).length ∧ ((l.filter p).length = (l.filter q).length → l.filter p = l.filter q) := by
  have e : l.filter p = (l.filter q).filter p := by
    rw [List.filter_filter]
    refine List.filter_congr fun x hx => ?_
    cases hp : p x with
    | false => rfl
    | true =>
      have := h x (List.mem_filter.mpr ⟨hx, hp⟩)
      rw [(List.mem_filter.mp this).2]; rfl
  have s : (l.filter p).Sublist (l.filter q) := by
    rw [e]
    exact List.filter_sublist
  exact ⟨s.length_le, fun z => s.eq_of_length z⟩
theorem rest_filter (shop : Shop) (c : List Nat) : ∃ p : Nat → Bool, rest shop c = (List.range shop.machines.length).filter p := ⟨_, rfl⟩
theorem cov_is (shop : Shop) : minimumCover shop = (bestCov shop, rest shop (bestCov shop)) := by
  obtain ⟨pre, post, e, h1, h2⟩ := cov_first shop
  have hr : rest shop (bestCov shop) ∈ sets shop.machines.length := filter_mem_sets _ _
  obtain ⟨pre2, post2, e2, hn⟩ := List.eq_append_cons_of_mem hr
  have key : ∀ A B, B ∈ sets shop.machines.length → isCover shop A B = true → csz shop A ≤ A.length + B.length ∧ (csz shop A = A.length + B.length → B = rest shop A) := by
    intro A B hB hc
    obtain ⟨q, rfl⟩ := of_mem_sets hB
    obtain ⟨p, ep⟩ := rest_filter shop A
    have hs : ∀ x ∈ (List.range shop.machines.length).filter p, x ∈ (List.range shop.machines.length).filter q := fun x hx => cover_iff.mp hc x (by rw [ep]; exact hx)
    have := filter_sub hs
    unfold csz
    rw [ep]
    exact ⟨by omega, fun z => (this.2 (by omega)).symm⟩
  have all : ∀ A ∈ sets shop.moulds.length, csz shop (bestCov shop) ≤ csz shop A := by
    intro A hA
    rw [e] at hA
    rcases List.mem_append.mp hA with q | q
    · exact Nat.le_of_lt (h1 A q)
    · rcases List.mem_cons.mp q with q | q
      · rw [q]; exact Nat.le_refl _
      · exact h2 A q
  have small : csz shop (bestCov shop) ≤ shop.moulds.length ∧ csz shop (bestCov shop) ≤ shop.machines.length := by
    constructor
    · have a1 := all ((List.range shop.moulds.length).filter fun _ => true) (filter_mem_sets _ _)
      have e3 : (List.range shop.moulds.length).filter (fun _ => true) = List.range shop.moulds.length := by simp
      rw [e3] at a1
      have e4 : rest shop (List.range shop.moulds.length) = [] := by
        refine List.eq_nil_iff_forall_not_mem.mpr fun j hj => ?_
        obtain ⟨i, hi, hf⟩ := mem_rest.mp hj
        exact hi (List.mem_range.mpr (fits_lt hf).1)
      unfold csz at a1 ⊢
      rw [e4, List.length_range] at a1
      simpa using a1
    · have a1 := all ((List.range shop.moulds.length).filter fun _ => false) (filter_mem_sets _ _)
      have e3 : (List.range shop.moulds.length).filter (fun _ => false) = [] := by simp
      rw [e3] at a1
      obtain ⟨p, ep⟩ := rest_filter shop []
      have e5 : (rest shop []).length ≤ shop.machines.length := by
        rw [ep]
        have := List.length_filter_le p (List.range shop.machines.length)
        rw [List.length_range] at this
        exact this
      unfold csz at a1 ⊢
      simp only [List.length_nil] at a1
      omega
  have em : minimumCover shop = ((sets shop.moulds.length).flatMap fun A => (sets shop.machines.length).map fun B => (A, B)).foldl
      (fun best c => if (isCover shop c.1 c.2 && decide (c.1.length + c.2.length < best.1.length + best.2.length)) = true then c else best) (List.range shop.moulds.length, List.range shop.machines.length) := by
    unfold minimumCover
    rw [sets_is, sets_is, List.flatMap_map]
    simp only [List.map_map]
    rfl
  rw [em]
  by_cases z : shop.moulds.length = 0 ∧ shop.machines.length = 0
  · have b0 : bestCov shop = [] := by
      unfold bestCov
      rw [z.1]
      show covStep shop [] [] = []
      unfold covStep
      rw [if_neg (Nat.lt_irrefl _)]
    have r0 : rest shop (bestCov shop) = [] := by
      obtain ⟨p, ep⟩ := rest_filter shop (bestCov shop)
      rw [ep, z.2]; rfl
    rw [r0, b0, z.1, z.2]
    show (if (isCover shop [] [] && decide (0 + 0 < 0 + 0)) = true then (([] : List Nat), ([] : List Nat)) else ([], [])) = ([], [])
    split <;> rfl
  · have el : ((sets shop.moulds.length).flatMap fun A => (sets shop.machines.length).map fun B => (A, B)) =
        (pre.flatMap (fun A => (sets shop.machines.length).map fun B => (A, B)) ++ pre2.map fun B => (bestCov shop, B)) ++ (bestCov shop, rest shop (bestCov shop)) :: (post2.map (fun B => (bestCov shop, B)) ++ post.flatMap fun A => (sets shop.machines.length).map fun B => (A, B)) := by
      conv => lhs; rw [e]
      rw [List.flatMap_append, List.flatMap_cons]
      have e6 : ((sets shop.machines.length).map fun B => (bestCov shop, B)) = (pre2.map fun B => (bestCov shop, B)) ++ (bestCov shop, rest shop (bestCov shop)) :: post2.map fun B => (bestCov shop, B) := by
        rw [e2, List.map_append, List.map_cons]
      rw [e6]
      simp only [List.append_assoc, List.cons_append]
    rw [el]
    have hsz : ∀ A B, (A, B) ∈ (pre.flatMap fun A => (sets shop.machines.length).map fun B => (A, B)) → A ∈ pre ∧ B ∈ sets shop.machines.length := by
      intro A B h
      obtain ⟨A', hA', hB⟩ := List.mem_flatMap.mp h
      obtain ⟨B', hB', ee⟩ := List.mem_map.mp hB
      obtain ⟨rfl, rfl⟩ := Prod.mk.inj ee
      exact ⟨hA', hB'⟩
    refine fold_min (fun c : List Nat × List Nat => isCover shop c.1 c.2) (fun c => c.1.length + c.2.length) _ _ _ _ ?_ ?_ ?_ ?_
    · exact cover_iff.mpr fun j hj => hj
    · rintro ⟨A, B⟩ hx hc
      show (bestCov shop).length + (rest shop (bestCov shop)).length < A.length + B.length
      rcases List.mem_append.mp hx with q | q
      · obtain ⟨hA, hB⟩ := hsz A B q
        have k1 := (key A B hB hc).1
        have k2 := h1 A hA
        unfold csz at k1 k2
        omega
      · obtain ⟨B', hB', ee⟩ := List.mem_map.mp q
        obtain ⟨rfl, rfl⟩ := Prod.mk.inj ee
        have hB : B' ∈ sets shop.machines.length := by rw [e2]; exact List.mem_append_left _ hB'
        obtain ⟨k1, k2⟩ := key (bestCov shop) B' hB hc
        unfold csz at k1 k2
        refine Nat.lt_of_le_of_ne k1 fun ee => ?_
        exact hn (by rw [← k2 ee]; exact hB')
    · rintro ⟨A, B⟩ hx hc
      show (bestCov shop).length + (rest shop (bestCov shop)).length ≤ A.length + B.length
      rcases List.mem_append.mp hx with q | q
      · obtain ⟨B', hB', ee⟩ := List.mem_map.mp q
        obtain ⟨rfl, rfl⟩ := Prod.mk.inj ee
        have hB : B' ∈ sets shop.machines.length := by rw [e2]; exact List.mem_append_right _ (List.mem_cons_of_mem _ hB')
        have k1 := (key (bestCov shop) B' hB hc).1
        unfold csz at k1
        omega
      · obtain ⟨A', hA', hB⟩ := List.mem_flatMap.mp q
        obtain ⟨B', hB', ee⟩ := List.mem_map.mp hB
        obtain ⟨rfl, rfl⟩ := Prod.mk.inj ee
        have k1 := (key A' B' hB' hc).1
        have k2 := h2 A' hA'
        unfold csz at k1 k2
        omega
    · show (bestCov shop).length + (rest shop (bestCov shop)).length < (List.range shop.moulds.length).length + (List.range shop.machines.length).length
      rw [List.length_range, List.length_range]
      unfold csz at small
      omega
end Mp
/-! MpE -/
set_option Elab.async false
set_option linter.all false
/-! Mathematics of the best assignment, entry by entry. No Python here. -/
namespace Mp
open Sr117

theorem max_ge {shop : Shop} {a : Assignment} (e : a.length = shop.moulds.length) (g : Good shop 0 [] a) : runningCount a ≤ maxRunning shop :=
  fold_le runningCount (allAssignments shop) (shop.moulds.map fun _ => none) a (List.mem_cons_of_mem _ ((mem_all shop a).mpr ⟨e, g⟩))
theorem max_ex (shop : Shop) : ∃ a : Assignment, a.length = shop.moulds.length ∧ Good shop 0 [] a ∧ runningCount a = maxRunning shop := by
  rcases List.mem_cons.mp (fold_mem runningCount (allAssignments shop) (shop.moulds.map fun _ => none)) with q | q
  · exact ⟨shop.moulds.map fun _ => none, List.length_map _, good_allnone shop _ _ _, by unfold maxRunning bestAssignment; rw [q]⟩
  · obtain ⟨h1, h2⟩ := (mem_all shop _).mp q
    exact ⟨_, h1, h2, rfl⟩
theorem rc_app (p q : Assignment) : runningCount (p ++ q) = runningCount p + runningCount q := by
  unfold runningCount
  rw [List.filter_append, List.length_append]
/-- the machines in use -/
def usedOf (p : Assignment) : List Nat := p.filterMap fun e => e
theorem good_app {shop : Shop} (p q : Assignment) : Good shop 0 [] (p ++ q) ↔ Good shop 0 [] p ∧ Good shop p.length (usedOf p) q := by
  rw [good_iff, good_iff, good_iff, List.filterMap_append, List.nodup_append]
  unfold usedOf
  constructor
  · rintro ⟨h1, ⟨h2, h3, h4⟩, _⟩
    refine ⟨⟨fun k j e => h1 k j ?_, h2, by simp⟩, fun k j e => ?_, h3, fun j hj z => h4 j z j hj rfl⟩
    · rw [List.getElem?_append_left (List.getElem?_eq_some_iff.mp e).1]; exact e
    · have := h1 (p.length + k) j (by rw [List.getElem?_append_right (by omega), show p.length + k - p.length = k by omega]; exact e)
      rwa [Nat.zero_add] at this
  · rintro ⟨⟨h1, h2, _⟩, h3, h4, h5⟩
    refine ⟨fun k j e => ?_, ⟨h2, h4, fun a ha b hb z => h5 b hb (by rw [← z]; exact ha)⟩, by simp⟩
    by_cases c : k < p.length
    · rw [List.getElem?_append_left c] at e; exact h1 k j e
    · rw [List.getElem?_append_right (by omega)] at e
      have := h3 _ j e
      rwa [show p.length + (k - p.length) = 0 + k by omega] at this
/-- the places of the machines that are not in use -/
def freeIx (shop : Shop) (p : Assignment) : List Nat := (List.range shop.machines.length).filter fun j => !(usedOf p).contains j
def sub (shop : Shop) (p : Assignment) : Shop := ⟨(freeIx shop p).map (machineAt shop), shop.moulds.drop p.length⟩
theorem mem_free {shop : Shop} {p : Assignment} {j : Nat} : j ∈ freeIx shop p ↔ j < shop.machines.length ∧ j ∉ usedOf p := by
  unfold freeIx
  rw [List.mem_filter, List.mem_range]
  simp
theorem nodup_free (shop : Shop) (p : Assignment) : (freeIx shop p).Nodup := List.Pairwise.filter _ List.nodup_range
theorem fits_sub {shop : Shop} {p : Assignment} {k i j : Nat} (h : (freeIx shop p)[i]? = some j) : Sr117.fits (sub shop p) k i = Sr117.fits shop (p.length + k) j := by
  have hl := (List.getElem?_eq_some_iff.mp h).1
  have hj : j ∈ freeIx shop p := List.mem_of_getElem? h
  have hj := mem_free.mp hj
  have e1 : machineAt (sub shop p) i = machineAt shop j := by
    unfold machineAt sub
    rw [List.getD_eq_getElem?_getD, List.getElem?_map, h]
    rfl
  have e2 : mouldAt (sub shop p) k = mouldAt shop (p.length + k) := by
    unfold mouldAt sub
    rw [List.getD_eq_getElem?_getD, List.getElem?_drop, List.getD_eq_getElem?_getD]
  have e3 : decide (k < (sub shop p).moulds.length) = decide (p.length + k < shop.moulds.length) := by
    refine decide_eq_decide.mpr ?_
    show k < (shop.moulds.drop p.length).length ↔ _
    rw [List.length_drop]; omega
  have e4 : decide (i < (sub shop p).machines.length) = decide (j < shop.machines.length) := by
    refine decide_eq_decide.mpr ?_
    show i < ((freeIx shop p).map (machineAt shop)).length ↔ _
    rw [List.length_map]
    exact ⟨fun _ => hj.1, fun _ => hl⟩
  unfold Sr117.fits
  rw [e1, e2, e3, e4]
def reL (f : Nat → Nat) (q : Assignment) : Assignment := q.map fun e => e.map f
theorem rc_reL (f : Nat → Nat) : ∀ q : Assignment, runningCount (reL f q) = runningCount q
  | [] => rfl
  | none :: q => by
    show runningCount (none :: reL f q) = _
    rw [rc_none, rc_none, rc_reL f q]
  | some j :: q => by
    show runningCount (some (f j) :: reL f q) = _
    rw [rc_some, rc_some, rc_reL f q]
theorem used_reL (f : Nat → Nat) : ∀ q : Assignment, usedOf (reL f q) = (usedOf q).map f
  | [] => rfl
  | none :: q => used_reL f q
  | some j :: q => by
    show f j :: usedOf (reL f q) = f j :: (usedOf q).map f
    rw [used_reL f q]
theorem get_reL {f : Nat → Nat} {q : Assignment} {k i : Nat} (h : (reL f q)[k]? = some (some i)) : ∃ j, q[k]? = some (some j) ∧ f j = i := by
  unfold reL at h
  rw [List.getElem?_map] at h
  cases e : q[k]? with
  | none => rw [e] at h; cases h
  | some o =>
    rw [e] at h
    cases o with
    | none => cases h
    | some j => exact ⟨j, rfl, Option.some.inj (Option.some.inj h)⟩
theorem used_get {q : Assignment} {j : Nat} (h : j ∈ usedOf q) : ∃ k : Nat, q[k]? = some (some j) := by
  obtain ⟨o, h1, h2⟩ := List.mem_filterMap.mp h
  obtain ⟨k, hk⟩ := List.mem_iff_getElem?.mp h1
  have h2 : o = some j := h2
  rw [h2] at hk
  exact ⟨k, hk⟩
theorem get_used {q : Assignment} {j k : Nat} (h : q[k]? = some (some j)) : j ∈ usedOf q := List.mem_filterMap.mpr ⟨_, List.mem_of_getElem? h, rfl⟩
def ext (shop : Shop) (p : Assignment) : Nat := runningCount p + maxRunning (sub shop p)
theorem sub_len {shop : Shop} {p : Assignment} : (sub shop p).moulds.length = shop.moulds.length - p.length := List.length_drop ..
/-- no valid assignment that begins so is larger -/
theorem ext_ge {shop : Shop} {p q : Assignment} (e : (p ++ q).length = shop.moulds.length) (g : Good shop 0 [] (p ++ q)) : runningCount (p ++ q) ≤ ext shop p := by
  obtain ⟨gp, gq⟩ := (good_app p q).mp g
  obtain ⟨h1, h2, h3⟩ := (good_iff q p.length (usedOf p)).mp gq
  have hf : ∀ j ∈ usedOf q, j ∈ freeIx shop p := fun j hj => by
    obtain ⟨k, hk⟩ := used_get hj
    exact mem_free.mpr ⟨(fits_lt (h1 k j hk)).2, h3 j hj⟩
  have gi : ∀ j ∈ usedOf q, (freeIx shop p)[(freeIx shop p).idxOf j]? = some j := fun j hj => by rw [List.getElem?_eq_getElem (List.idxOf_lt_length_iff.mpr (hf j hj)), List.getElem_idxOf]
  have hq : Good (sub shop p) 0 [] (reL (fun j => (freeIx shop p).idxOf j) q) := by
    refine (good_iff _ _ _).mpr ⟨fun k i ek => ?_, ?_, by simp⟩
    · obtain ⟨j, hj, rfl⟩ := get_reL ek
      rw [Nat.zero_add, fits_sub (gi j (get_used hj))]
      exact h1 k j hj
    · show (usedOf (reL _ q)).Nodup
      rw [used_reL]
      refine nodup_map_on _ h2 fun x hx y hy z => ?_
      have z : (freeIx shop p).idxOf x = (freeIx shop p).idxOf y := z
      have a := gi x hx
      rw [z, gi y hy] at a
      exact (Option.some.inj a).symm
  have := max_ge (shop := sub shop p) (a := reL (fun j => (freeIx shop p).idxOf j) q) (by rw [sub_len]; rw [List.length_append] at e; unfold reL; rw [List.length_map]; omega) hq
  rw [rc_reL] at this
  rw [rc_app]
  unfold ext
  omega
/-- one as large begins so -/
theorem ext_ex {shop : Shop} {p : Assignment} (g : Good shop 0 [] p) (hl : p.length ≤ shop.moulds.length) : ∃ q : Assignment, (p ++ q).length = shop.moulds.length ∧ Good shop 0 [] (p ++ q) ∧ runningCount (p ++ q) = ext shop p := by
  obtain ⟨q', e, gq, hr⟩ := max_ex (sub shop p)
  obtain ⟨h1, h2, h3⟩ := (good_iff _ _ _).mp gq
  have gi : ∀ i ∈ usedOf q', (freeIx shop p)[i]? = some ((freeIx shop p).getD i 0) := fun i hi => by
    obtain ⟨k, hk⟩ := used_get hi
    have := (fits_lt (h1 k i hk)).2
    have hl : i < (freeIx shop p).length := by
      have e : (sub shop p).machines.length = (freeIx shop p).length := List.length_map _
      omega
    rw [List.getD_eq_getElem?_getD, List.getElem?_eq_getElem hl]
    rfl
  refine ⟨reL (fun i => (freeIx shop p).getD i 0) q', ?_, (good_app _ _).mpr ⟨g, (good_iff _ _ _).mpr ⟨fun k j ek => ?_, ?_, fun j hj => ?_⟩⟩, ?_⟩
  · rw [List.length_append]
    unfold reL
    rw [List.length_map, e, sub_len]
    omega
  · obtain ⟨i, hi, rfl⟩ := get_reL ek
    have := h1 k i hi
    rw [Nat.zero_add, fits_sub (gi i (get_used hi))] at this
    exact this
  · show (usedOf (reL _ q')).Nodup
    rw [used_reL]
    refine nodup_map_on _ h2 fun x hx y hy z => ?_
    have z : (freeIx shop p).getD x 0 = (freeIx shop p).getD y 0 := z
    have a := gi x hx
    have b := gi y hy
    rw [← z] at b
    obtain ⟨a1, a2⟩ := List.getElem?_eq_some_iff.mp a
    obtain ⟨b1, b2⟩ := List.getElem?_eq_some_iff.mp b
    exact (List.getElem_inj (nodup_free shop p)).mp (a2.trans b2.symm)
  · have hj : j ∈ usedOf (reL (fun i => (freeIx shop p).getD i 0) q') := hj
    rw [used_reL] at hj
    obtain ⟨i, hi, rfl⟩ := List.mem_map.mp hj
    exact (mem_free.mp (List.mem_of_getElem? (gi i hi))).2
  · rw [rc_app, rc_reL, hr]
    rfl
theorem ext_le {shop : Shop} {p : Assignment} (g : Good shop 0 [] p) (hl : p.length ≤ shop.moulds.length) : ext shop p ≤ maxRunning shop := by
  obtain ⟨q, e, gq, hr⟩ := ext_ex g hl
  rw [← hr]
  exact max_ge e gq

/-! ### entry by entry -/
def okNext (shop : Shop) (size : Nat) (p : Assignment) (j : Nat) : Bool := !(usedOf p).contains j && decide (ext shop (p ++ [some j]) = size)
def nextOf (shop : Shop) (size : Nat) (p : Assignment) : Option Nat := (fitM shop p.length).find? (okNext shop size p)
def greedy (shop : Shop) (size : Nat) : Nat → Assignment
  | 0 => []
  | i + 1 => greedy shop size i ++ [nextOf shop size (greedy shop size i)]
theorem greedy_len (shop : Shop) (size : Nat) : ∀ i, (greedy shop size i).length = i
  | 0 => rfl
  | i + 1 => by rw [greedy, List.length_append, greedy_len shop size i]; rfl
theorem lex_app : ∀ {p r : Assignment} {x y : Option Nat}, p.length = r.length → lexLt (r ++ [y]) (p ++ [x]) → lexLt r p ∨ (r = p ∧ entLt y x)
  | [], [], x, y, _, h => by
    rcases h with h | ⟨_, h⟩
    · exact .inr ⟨rfl, h⟩
    · exact absurd h (by intro z; exact z)
  | [], b :: r, x, y, e, _ => by simp at e
  | a :: p, [], x, y, e, _ => by simp at e
  | a :: p, b :: r, x, y, e, h => by
    rcases h with h | ⟨h1, h2⟩
    · exact .inl (.inl h)
    · rcases lex_app (by simpa using e) h2 with z | ⟨z1, z2⟩
      · exact .inl (.inr ⟨h1, z⟩)
      · exact .inr ⟨by rw [h1, z1], z2⟩
structure Inv (shop : Shop) (p : Assignment) : Prop where
  g : Good shop 0 [] p
  x : ext shop p = maxRunning shop
  l : ∀ b : Assignment, b.length = shop.moulds.length → Good shop 0 [] b → runningCount b = maxRunning shop → ¬ lexLt (b.take p.length) p
theorem sub_nil (shop : Shop) : maxRunning (sub shop []) = maxRunning shop := by
  have h1 := ext_ge (shop := shop) (p := []) (q := (max_ex shop).choose) (max_ex shop).choose_spec.1 (max_ex shop).choose_spec.2.1
  have h2 := ext_le (shop := shop) (p := []) trivial (Nat.zero_le _)
  have h3 := (max_ex shop).choose_spec.2.2
  rw [List.nil_append, h3] at h1
  have e : ext shop [] = maxRunning (sub shop []) := by
    unfold ext
    show 0 + _ = _
    rw [Nat.zero_add]
  rw [e] at h1 h2
  omega
theorem inv_nil (shop : Shop) : Inv shop [] := ⟨trivial, by
    unfold ext
    show 0 + _ = _
    rw [Nat.zero_add, sub_nil], fun b _ _ _ h => h⟩
theorem good_one {shop : Shop} {p : Assignment} {j : Nat} (g : Good shop 0 [] p) : Good shop 0 [] (p ++ [some j]) ↔ Sr117.fits shop p.length j = true ∧ j ∉ usedOf p := by
  rw [good_app]
  exact ⟨fun h => ⟨h.2.1, h.2.2.1⟩, fun h => ⟨g, h.1, h.2, trivial⟩⟩
theorem ok_next {shop : Shop} {p : Assignment} (I : Inv shop p) (hl : p.length < shop.moulds.length) {j : Nat} {q : Assignment} (e : (p ++ some j :: q).length = shop.moulds.length) (g : Good shop 0 [] (p ++ some j :: q)) (hr : runningCount (p ++ some j :: q) = maxRunning shop) :
    j ∈ fitM shop p.length ∧ okNext shop (maxRunning shop) p j = true := by
  have e1 : p ++ some j :: q = (p ++ [some j]) ++ q := by rw [List.append_assoc]; rfl
  rw [e1] at e g hr
  have gp := ((good_app _ _).mp g).1
  obtain ⟨f, u⟩ := (good_one I.g).mp gp
  refine ⟨mem_fitM.mpr f, ?_⟩
  have h1 := ext_ge e g
  have h2 := ext_le gp (by rw [List.length_append]; exact hl)
  unfold okNext
  rw [Bool.and_eq_true, decide_eq_true_iff]
  refine ⟨?_, by omega⟩
  cases c : (usedOf p).contains j with
  | false => rfl
  | true => exact absurd (List.contains_iff_mem.mp c) u
theorem sorted_fitM (shop : Shop) (i : Nat) : (fitM shop i).Pairwise (· < ·) := List.Pairwise.filter _ List.pairwise_lt_range
theorem find_first {p : Nat → Bool} : ∀ {l : List Nat} {j : Nat}, l.Pairwise (· < ·) → l.find? p = some j → j ∈ l ∧ p j = true ∧ ∀ i ∈ l, p i = true → j ≤ i
  | [], _, _, h => by simp at h
  | a :: l, j, hs, h => by
    by_cases c : p a = true
    · rw [List.find?_cons_of_pos c] at h
      cases h
      refine ⟨List.mem_cons_self .., c, fun i hi _ => ?_⟩
      rcases List.mem_cons.mp hi with rfl | hi
      · exact Nat.le_refl _
      · exact Nat.le_of_lt ((List.pairwise_cons.mp hs).1 i hi)
    · rw [List.find?_cons_of_neg c] at h
      obtain ⟨h1, h2, h3⟩ := find_first (List.pairwise_cons.mp hs).2 h
      refine ⟨List.mem_cons_of_mem _ h1, h2, fun i hi hp => ?_⟩
      rcases List.mem_cons.mp hi with rfl | hi
      · exact absurd hp c
      · exact h3 i hi hp
theorem take_split {b : Assignment} {i : Nat} (h : i < b.length) : ∃ y q, b = b.take i ++ y :: q ∧ b.take (i + 1) = b.take i ++ [y] := by
  refine ⟨b[i], b.drop (i + 1), ?_, ?_⟩
  · rw [← List.drop_eq_getElem_cons h, List.take_append_drop]
  · rw [List.take_succ, List.getElem?_eq_getElem h]
    rfl
theorem inv_step {shop : Shop} {p : Assignment} (I : Inv shop p) (hl : p.length < shop.moulds.length) : Inv shop (p ++ [nextOf shop (maxRunning shop) p]) := by
  have lex : ∀ b : Assignment, b.length = shop.moulds.length → Good shop 0 [] b → runningCount b = maxRunning shop → lexLt (b.take (p ++ [nextOf shop (maxRunning shop) p]).length) (p ++ [nextOf shop (maxRunning shop) p]) →
      ∃ y q, b = p ++ y :: q ∧ entLt y (nextOf shop (maxRunning shop) p) := by
    intro b e g hr h
    obtain ⟨y, q, e1, e2⟩ := take_split (b := b) (i := p.length) (by omega)
    rw [List.length_append, show p.length + [nextOf shop (maxRunning shop) p].length = p.length + 1 from rfl, e2] at h
    rcases lex_app (by rw [List.length_take]; omega) h with z | ⟨z1, z2⟩
    · exact absurd z (I.l b e g hr)
    · rw [z1] at e1
      exact ⟨y, q, e1, z2⟩
  cases c : nextOf shop (maxRunning shop) p with
  | some j =>
    rw [c] at lex
    obtain ⟨h1, h2, h3⟩ := find_first (sorted_fitM shop p.length) c
    unfold okNext at h2
    rw [Bool.and_eq_true, decide_eq_true_iff] at h2
    have u : j ∉ usedOf p := fun z => by
      have := List.contains_iff_mem.mpr z
      rw [this] at h2
      exact absurd h2.1 (by decide)
    refine ⟨(good_one I.g).mpr ⟨mem_fitM.mp h1, u⟩, h2.2, fun b e g hr h => ?_⟩
    obtain ⟨y, q, e1, e2⟩ := lex b e g hr h
    cases y with
    | none => exact e2
    | some i =>
      rw [e1] at e g hr
      obtain ⟨k1, k2⟩ := ok_next I hl e g hr
      have := h3 i k1 k2
      have e2 : i < j := e2
      omega
  | none =>
    rw [c] at lex
    have no := List.find?_eq_none.mp c
    have g1 : Good shop 0 [] (p ++ [none]) := (good_app _ _).mpr ⟨I.g, trivial⟩
    refine ⟨g1, ?_, fun b e g hr h => ?_⟩
    · obtain ⟨q, e, g, hr⟩ := ext_ex I.g (Nat.le_of_lt hl)
      rw [I.x] at hr
      cases q with
      | nil => rw [List.append_nil] at e; omega
      | cons y q =>
        cases y with
        | some j =>
          obtain ⟨k1, k2⟩ := ok_next I hl e g hr
          exact absurd k2 (no j k1)
        | none =>
          have e1 : p ++ none :: q = (p ++ [none]) ++ q := by rw [List.append_assoc]; rfl
          rw [e1] at e g hr
          have h1 := ext_ge e g
          have h2 := ext_le g1 (by rw [List.length_append]; exact hl)
          omega
    · obtain ⟨y, q, e1, e2⟩ := lex b e g hr h
      cases y with
      | none => exact e2
      | some i =>
        rw [e1] at e g hr
        obtain ⟨k1, k2⟩ := ok_next I hl e g hr
        exact absurd k2 (no i k1)
theorem inv_all (shop : Shop) : ∀ i, i ≤ shop.moulds.length → Inv shop (greedy shop (maxRunning shop) i)
  | 0, _ => inv_nil shop
  | i + 1, h => inv_step (inv_all shop i (by omega)) (by rw [greedy_len]; exact h)
theorem greedy_is (shop : Shop) : greedy shop (maxRunning shop) shop.moulds.length = bestAssignment shop := by
  have I := inv_all shop _ (Nat.le_refl _)
  have hl := greedy_len shop (maxRunning shop) shop.moulds.length
  have hx : runningCount (greedy shop (maxRunning shop) shop.moulds.length) = maxRunning shop := by
    obtain ⟨q, e, g, hr⟩ := ext_ex I.g (by rw [hl]; exact Nat.le_refl _)
    rw [List.length_append, hl] at e
    have : q = [] := List.eq_nil_of_length_eq_zero (by omega)
    rw [this, List.append_nil, I.x] at hr
    exact hr
  refine (best_is hl I.g (fun b e g => by rw [hx]; exact max_ge e g) fun b e g hr h => ?_).symm
  refine I.l b e g (hr.trans hx) ?_
  rw [hl, ← e, List.take_length, e]
  exact h
end Mp
/-! Hb -/
set_option Elab.async false
set_option maxRecDepth 100000
set_option maxHeartbeats 2000000
/-! Words of the whole proof: a def of the top by its name, heaps, lists of ratings. -/
namespace Mp
open PySem PySem.Spec PyProof.Rows L2
open Sr117 (Shop Rating)

/-! ### a def of the top, by its name -/
structure Def (P : Program) (w : World) (K : PySem.W.Frag) (mg : Str → Option Value) (base : Heap) (k : Nat) (x : Str) (ps : List Str) (sp : Sp) : Prop where
  ex : ∃ (f : Addr) (fd : FuncData), FnOk P w K mg base CX0 k f fd ps sp ∧ mg x = some (.ref f) ∧ PySem.W.keepIn K (.ref f) = true ∧ Binds K fd ps []
section
variable {X : Cx} {k : Nat} {x : Str} {ps : List Str} {sp : Sp} {t : TA} {e : Expr} {es : List Expr} {p pos : Pos}
theorem pe_callD (D : Def X.prog X.w X.K X.mg X.base k x ps sp) (hr : Room k X.A) (ha : PA X (e :: es) t) (hg : Gl X x := by rfl) (hdb : (x == ("__debug__" : Str)) = false := by decide) (he : starEach (e :: es) X.env = (false, eval e X.env) :: starEach es X.env := by rfl)
    (hpl : (backTo pos (starEach es X.env)).any (·.1) = false := by rfl) : PE X (.Call (.Name x p) (e :: es) [] pos) (tCall sp [] E0 t) := by
  obtain ⟨f, fd, F, hm, hk, hb⟩ := D.ex
  exact pe_call F hr hg hm hk hb .nil pass0 ha hdb he hpl
end

/-! ### heaps -/
theorem same_new {H : Hp} {p : Addr} (h : H p = none) (o : HO) : Same H (upd H p o) := fun b u q => by rw [upd_ne (ne_of_none q h)]; exact q
theorem ne_kind {H : Hp} {a b : Addr} {o u : HO} (h1 : H a = some o) (h2 : H b = some u) (h : o ≠ u) : a ≠ b := fun e => by
  subst e
  exact h (Option.some.inj (h1.symm.trans h2))
theorem if_true_of {c : Bool} {A B : Prop} (hc : c = true) (h : A) : if c = true then A else B := by
  rw [if_pos hc]
  exact h
theorem if_false_of {c : Bool} {A B : Prop} (hc : c = false) (h : B) : if c = true then A else B := by
  rw [hc, if_neg Bool.false_ne_true]
  exact h
theorem ite_bool {c : Bool} {A B : Prop} (h1 : c = true → A) (h2 : c = false → B) : if c = true then A else B := by
  cases c with
  | true => exact if_true_of rfl (h1 rfl)
  | false => exact if_false_of rfl (h2 rfl)
/-- what the caller may count on: all that was tracked stands, but what is named -/
def But (L : List Addr) (H H' : Hp) : Prop := ∀ b o, H b = some o → b ∉ L → H' b = some o
theorem But.of {L : List Addr} {H H' : Hp} (h : Same H H') : But L H H' := fun b o e _ => h b o e
theorem But.trans {L : List Addr} {H H1 H2 : Hp} (a : But L H H1) (b : But L H1 H2) : But L H H2 := fun c o e n => b c o (a c o e n) n
theorem But.upd {H : Hp} {l : Addr} (o : HO) : But [l] H (upd H l o) := fun b u e n => by
  rw [upd_ne (fun z => n (by rw [z]; exact List.mem_singleton_self l))]
  exact e
theorem But.mono {L M : List Addr} {H H' : Hp} (h : But L H H') (s : ∀ a ∈ L, a ∈ M) : But M H H' := fun b o e n => h b o e fun z => n (s b z)

/-! ### ratings -/
def rI1 (r : Rating) : List V := [.int (r.clampForce : Int), .int (r.platenSize : Int)]
def RatT (H : Hp) (t : Addr) (r : Rating) : Prop := H t = some (.tup (rI1 r))
inductive RatLs (H : Hp) : List Addr → List Rating → Prop where
  | nil : RatLs H [] []
  | cons {t : Addr} {r : Rating} {ts : List Addr} {rs : List Rating} : RatT H t r → RatLs H ts rs → RatLs H (t :: ts) (r :: rs)
theorem RatLs.len {H : Hp} {ts : List Addr} {rs : List Rating} (h : RatLs H ts rs) : ts.length = rs.length := by
  induction h with
  | nil => rfl
  | cons _ _ ih => rw [List.length_cons, List.length_cons, ih]
theorem RatLs.keep {H H' : Hp} {ts : List Addr} {rs : List Rating} (h : RatLs H ts rs) (s : ∀ (b : Addr) (xs : List V), H b = some (.tup xs) → H' b = some (.tup xs)) : RatLs H' ts rs := by
  induction h with
  | nil => exact .nil
  | cons a _ ih => exact .cons (s _ _ a) ih
theorem RatLs.get {H : Hp} {ts : List Addr} {rs : List Rating} (h : RatLs H ts rs) : ∀ {i : Nat} {r : Rating}, rs[i]? = some r → ∃ t, ts[i]? = some t ∧ RatT H t r := by
  induction h with
  | nil => intro i r e; simp at e
  | @cons t r ts rs a _ ih =>
    intro i r' e
    cases i with
    | zero => exact ⟨t, rfl, by rw [List.getElem?_cons_zero] at e; rw [← Option.some.inj e]; exact a⟩
    | succ i => rw [List.getElem?_cons_succ] at e; obtain ⟨t', h1, h2⟩ := ih e; exact ⟨t', h1, h2⟩
theorem RatLs.add {H : Hp} {ts : List Addr} {rs : List Rating} (h : RatLs H ts rs) {t : Addr} {r : Rating} (a : RatT H t r) : RatLs H (ts ++ [t]) (rs ++ [r]) := by
  induction h with
  | nil => exact .cons a .nil
  | cons b _ ih => exact .cons b ih
theorem RatLs.erase {H : Hp} {ts : List Addr} {rs : List Rating} (h : RatLs H ts rs) : ∀ i, RatLs H (ts.eraseIdx i) (rs.eraseIdx i) := by
  induction h with
  | nil => intro i; exact .nil
  | cons b c ih => intro i; cases i with
    | zero => exact c
    | succ i => exact .cons b (ih i)
theorem RatLs.set {H : Hp} {ts : List Addr} {rs : List Rating} (h : RatLs H ts rs) {t : Addr} {r : Rating} (a : RatT H t r) : ∀ i, RatLs H (ts.set i t) (rs.set i r) := by
  induction h with
  | nil => intro i; exact .nil
  | cons b c ih => intro i; cases i with
    | zero => exact .cons a c
    | succ i => exact .cons b (ih i)
/-- at l stands a list of these ratings -/
def RatL (H : Hp) (l : Addr) (rs : List Rating) : Prop := ∃ ts : List Addr, H l = some (.lst (ts.map V.ref)) ∧ RatLs H ts rs
theorem RatL.keep {L : List Addr} {H H' : Hp} {l : Addr} {rs : List Rating} (h : RatL H l rs) (s : But L H H') (n : l ∉ L) (hL : ∀ a ∈ L, ∀ xs, H a ≠ some (.tup xs)) : RatL H' l rs := by
  obtain ⟨ts, e, r⟩ := h
  exact ⟨ts, s _ _ e n, r.keep fun b xs e => s _ _ e fun z => hL b z xs e⟩
theorem RatL.same {H H' : Hp} {l : Addr} {rs : List Rating} (h : RatL H l rs) (s : Same H H') : RatL H' l rs := by
  obtain ⟨ts, e, r⟩ := h
  exact ⟨ts, s _ _ e, r.keep fun b xs e => s _ _ e⟩
end Mp
/-! Hc -/
set_option Elab.async false
set_option maxRecDepth 100000
set_option maxHeartbeats 2000000
namespace Mp
open PySem PySem.Spec PyProof.Rows L2
open Sr117 (Shop Rating)
/-- the i-th statement of the program -/
def top (i : Nat) : Stmt := PySem.Challenge.pw_mouldpress_s01_answers.main.body.getD i (.Pass ⟨0, 0, 0, 0⟩)
abbrev sIsIndex : Stmt := top 6
abbrev sIsRating : Stmt := top 11
abbrev sAddR : Stmt := top 12
abbrev sRemR : Stmt := top 13
abbrev sSetR : Stmt := top 14

/-- a constant of the top -/
def Num (mg : Str → Option Value) (x : Str) (n : Int) : Prop := ∃ t, mg x = some (.int n t)
theorem pe_num {X : Cx} {x : Str} {n : Int} {pos : Pos} (h : Num X.mg x n) (hg : Gl X x := by rfl) (hd : (x == ("__debug__" : Str)) = false := by decide) : PE X (.Name x pos) (tC (.int n)) := by
  obtain ⟨t, e⟩ := h
  exact pe_glob hg e ⟨t, rfl⟩ hd

/-! ### promises -/
def spIsIndex (K : PySem.W.Frag) : Sp := fun vs H Q _ => ∃ (a : Addr) (xs : List V) (k : Int), vs = [.ref a, .int k] ∧ SqL K H a xs ∧ Q (.bl (Sr117.isMachine ⟨xs.map fun _ => ⟨0, 0⟩, []⟩ k)) H
/-- 0 <= k < n -/
def idx (k : Int) (n : Nat) : Bool := SrCommon.isIndex k n
theorem idx_iff {k : Int} {n : Nat} : idx k n = true ↔ 0 ≤ k ∧ k < n := by
  unfold idx SrCommon.isIndex
  rw [Bool.and_eq_true, decide_eq_true_iff, decide_eq_true_iff]
def spIdx (K : PySem.W.Frag) : Sp := fun vs H Q _ => ∃ (a : Addr) (xs : List V) (k : Int), vs = [.ref a, .int k] ∧ SqL K H a xs ∧ Q (.bl (idx k xs.length)) H
def rate (a : Int) : Bool := Sr117.isRating a
theorem rate_iff {a : Int} : rate a = true ↔ 1 ≤ a ∧ a ≤ 999 := by
  unfold rate Sr117.isRating SrCommon.inRange Sr117.maxRating
  rw [Bool.and_eq_true, decide_eq_true_iff, decide_eq_true_iff]
def spIsRating (K : PySem.W.Frag) : Sp := fun vs H Q _ => ∃ (t : Addr) (a b : Int), vs = [.ref t] ∧ SqT K H t [.int a, .int b] ∧ Q (.bl (rate a && rate b)) H
/-- the mirror of add_rating: the list behind, the answer -/
def addR (rs : List Rating) (a b : Int) : List Rating × List Int :=
  if (rate a && rate b) = false then (rs, [-22]) else if 5 ≤ rs.length then (rs, [-28]) else (rs ++ [⟨a.toNat, b.toNat⟩], [(rs.length : Int)])
def remR (rs : List Rating) (k : Int) : List Rating × List Int :=
  if idx k rs.length = false then (rs, [-2]) else (rs.eraseIdx k.toNat, [((rs.length - 1 : Nat) : Int)])
def setR (rs : List Rating) (k a b : Int) : List Rating × List Int :=
  if idx k rs.length = false then (rs, [-2]) else if (rate a && rate b) = false then (rs, [-22]) else (rs.set k.toNat ⟨a.toNat, b.toNat⟩, [0, ((rs.getD k.toNat ⟨0, 0⟩).clampForce : Int), ((rs.getD k.toNat ⟨0, 0⟩).platenSize : Int)])
/-- what each of the three makes of a list of ratings: a new list as answer, the list behind, all else as it was -/
def After (l : Addr) (out : List Rating × List Int) (H : Hp) (Q : VK) : Prop :=
  ∀ (p : Addr) (H' : Hp), H p = none → H' p = some (.lst (out.2.map V.int)) → RatL H' l out.1 → But [l] H H' → Q (.ref p) H'
def spChange (K : PySem.W.Frag) (n : Nat) (f : List Rating → List Int → List Rating × List Int) : Sp := fun vs H Q _ => ∃ (l g : Addr) (rs : List Rating) (ns : List Int), vs = [.ref l, .ref g] ∧ RatL H l rs ∧ rs.length ≤ 5 ∧ SqL K H g (ns.map V.int) ∧ g ≠ l ∧ ns.length = n ∧ After l (f rs ns) H Q
def addN (rs : List Rating) (ns : List Int) := addR rs (ns.getD 0 0) (ns.getD 1 0)
def remN (rs : List Rating) (ns : List Int) := remR rs (ns.getD 0 0)
def setN (rs : List Rating) (ns : List Int) := setR rs (ns.getD 0 0) (ns.getD 1 0) (ns.getD 2 0)

section
variable {P : Program} {w : World} {K : PySem.W.Frag} {mg : Str → Option Value} {base : Heap} {f : Addr} {fd : FuncData}
theorem scII : FnScope ["ratings", "index"] ["ratings", "index"] (defScope sIsIndex) := ⟨rfl, rfl, rfl, by decide +kernel, rfl, by decide +kernel, by decide +kernel⟩
theorem ok_isIndex (F : Fun K "is_index" "is_index" sIsIndex f fd) (mlen : mg "len" = none) : FnOk P w K mg base CX0 1 f fd ["ratings", "index"] (spIdx K) := by
  refine F.ok scII (fun vs H Q E h => ?_) (fun cdv A outer s H vs Q E hr h => ?_)
  · obtain ⟨a, xs, k, rfl, _⟩ := h
    rfl
  obtain ⟨a, xs, k, rfl, hS, q⟩ := h
  refine ⟨_, pss_one (ps_ret (pe_chain op_le op_lt pe_int (pv 1) (pe_callB call_len_seq rfl mlen PySem.boot_len (pa_cons (pv 0) pa_nil)))), ?_⟩
  refine ⟨_, rfl, _, _, rfl, rfl, _, rfl, ?_⟩
  refine ite_bool (fun c => ?_) (fun c => ?_)
  · refine ⟨_, rfl, a, xs, rfl, .inl hS, _, _, rfl, rfl, ?_⟩
    have e : idx k xs.length = decide (k < (xs.length : Int)) := by
      show (decide (0 ≤ k) && decide (k < (xs.length : Int))) = _
      rw [c]; rfl
    rw [e] at q
    exact q
  · have e : idx k xs.length = false := by
      show (decide (0 ≤ k) && decide (k < (xs.length : Int))) = _
      rw [c]; rfl
    rw [e] at q
    exact q
theorem scIR : FnScope ["rating"] ["rating"] (defScope sIsRating) := ⟨rfl, rfl, rfl, by decide +kernel, rfl, by decide +kernel, by decide +kernel⟩
theorem ok_isRating (F : Fun K "is_rating" "is_rating" sIsRating f fd) (m1 : Num mg "LEAST" 1) (m2 : Num mg "GREATEST" 999) : FnOk P w K mg base CX0 1 f fd ["rating"] (spIsRating K) := by
  refine F.ok scIR (fun vs H Q E h => ?_) (fun cdv A outer s H vs Q E hr h => ?_)
  · obtain ⟨a, xs, k, rfl, _⟩ := h
    rfl
  obtain ⟨t, a, b, rfl, hS, q⟩ := h
  refine ⟨_, pss_one (ps_ret (pe_and (pe_chain op_le op_le (pe_num m1) (pe_ix ix_tup (pv 0) pe_int (fun _ _ => rfl)) (pe_num m2)) (pe_one (pe_chain op_le op_le (pe_num m1) (pe_ix ix_tup (pv 0) pe_int (fun _ _ => rfl)) (pe_num m2))))), ?_⟩
  have ra : rate a = (decide (1 ≤ a) && decide (a ≤ 999)) := rfl
  have rb : rate b = (decide (1 ≤ b) && decide (b ≤ 999)) := rfl
  rw [ra, rb] at q
  refine ⟨_, rfl, t, _, _, _, rfl, rfl, hS, rfl, _, _, rfl, rfl, _, rfl, ?_⟩
  refine ite_bool (fun c => ?_) (fun c => ?_)
  · refine ⟨_, _, rfl, rfl, _, rfl, ?_⟩
    refine ite_bool (fun c2 => ?_) (fun c2 => ?_)
    · refine ⟨_, rfl, t, _, _, _, rfl, rfl, hS, rfl, _, _, rfl, rfl, _, rfl, ?_⟩
      refine ite_bool (fun c3 => ?_) (fun c3 => ?_)
      · refine ⟨_, _, rfl, rfl, ?_⟩
        rw [c, c2, c3] at q
        exact q
      · rw [c, c2, c3] at q
        exact q
    · rw [c, c2] at q
      exact q
  · refine ⟨_, rfl, ?_⟩
    rw [c] at q
    exact q
end
end Mp
/-! Hd -/
set_option Elab.async false
set_option maxRecDepth 100000
set_option maxHeartbeats 2000000
namespace Mp
open PySem PySem.Spec PyProof.Rows L2
open Sr117 (Shop Rating)
theorem of_not_t {b : Bool} (h : (!b) = true) : b = false := by cases b <;> simp_all
theorem of_not_f {b : Bool} (h : (!b) = false) : b = true := by cases b <;> simp_all
theorem nf {b : Bool} (h : b = true) : ¬ b = false := by simp [h]
theorem at_int {ns : List Int} {i : Nat} (h : i < ns.length) : atI (ns.map V.int) (i : Int) = some (.int (ns.getD i 0)) := by
  refine atI_nat ?_
  rw [List.getElem?_map, List.getElem?_eq_getElem h, List.getD_eq_getElem?_getD, List.getElem?_eq_getElem h]
  rfl
theorem at_ref {ts : List Addr} {i : Nat} {t : Addr} (h : ts[i]? = some t) : atI (ts.map V.ref) (i : Int) = some (.ref t) := by
  refine atI_nat ?_
  rw [List.getElem?_map, h]
  rfl
theorem small {n : Nat} (h : n ≤ 1000) : n ≤ sizeLine := Nat.le_of_lt (small1000 h)
theorem seq_ne {K : PySem.W.Frag} {H : Hp} {a p : Addr} {xs : List V} (h : SqL K H a xs) (hp : H p = none) (o : HO) : SqL K (upd H p o) a xs := (same_new hp o).seq h
theorem seqT_new {K : PySem.W.Frag} {H : Hp} {p : Addr} {xs : List V} : SqT K (upd H p (.tup xs)) p xs := .inl (.inl upd_same)
section
variable {P : Program} {w : World} {K : PySem.W.Frag} {mg : Str → Option Value} {base : Heap} {f : Addr} {fd : FuncData}
theorem scAR : FnScope ["ratings", "numbers", "rating"] ["ratings", "numbers"] (defScope sAddR) := ⟨rfl, rfl, rfl, by decide +kernel, rfl, by decide +kernel, by decide +kernel⟩
theorem ok_addR (F : Fun K "add_rating" "add_rating" sAddR f fd) (mlen : mg "len" = none) (m1 : Num mg "OUT_OF_RANGE" (-22)) (m2 : Num mg "LIST_FULL" (-28)) (m3 : Num mg "MOST_RATINGS" 5)
    (D1 : Def P w K mg base 1 "is_rating" ["rating"] (spIsRating K)) : FnOk P w K mg base CX0 2 f fd ["ratings", "numbers"] (spChange K 2 addN) := by
  refine F.ok scAR (fun vs H Q E h => ?_) (fun cdv A outer s H vs Q E hr h => ?_)
  · obtain ⟨l, g, rs, ns, rfl, _⟩ := h
    rfl
  obtain ⟨l, g, rs, ns, rfl, ⟨ts, hl, hts⟩, h5, hg, hne, hn, q⟩ := h
  refine ⟨_, pss_cons (ps_set (i := 2) scAR.nd rfl (Or.inl rfl) (pe_tup (pa_cons (pe_ix ix_list (pv 1) pe_int (fun _ _ => rfl)) (pa_cons (pe_ix ix_list (pv 1) pe_int (fun _ _ => rfl)) pa_nil))))
    (pss_cons (ps_if (pt_not (pt_val (pe_callD D1 hr (pa_cons (pv 2) pa_nil)))) (pss_one (ps_ret (pe_lst (pa_cons (pe_num m1) pa_nil)))) pss_nil)
    (pss_cons (ps_if (pt_cmpR op_ge (pe_callB call_len_seq rfl mlen PySem.boot_len (pa_cons (pv 0) pa_nil)) (pe_num m3) (nomark _)) (pss_one (ps_ret (pe_lst (pa_cons (pe_num m2) pa_nil)))) pss_nil)
    (pss_cons (ps_expr (pe_bm PySem.F.plainAttrs_list PySem.F.slot_list_append PySem.F.type_list_append mt_append (pv 0) (pa_cons (pv 2) pa_nil)))
    (pss_one (ps_ret (pe_lst (pa_cons (pe_op op_sub (pe_callB call_len_seq rfl mlen PySem.boot_len (pa_cons (pv 0) pa_nil)) pe_int) pa_nil))))))), ?_⟩
  have hlen := hts.len
  have hll : (ts.map V.ref).length = rs.length := by rw [List.length_map, hlen]
  -- rating = (numbers[0], numbers[1])
  refine ⟨_, rfl, g, _, _, _, rfl, rfl, hg, at_int (i := 0) (by omega), _, rfl, g, _, _, _, rfl, rfl, hg, at_int (i := 1) (by omega), (by show 2 ≤ sizeLine; decide), fun t ht => ?_⟩
  have Hl1 : (upd H t (.tup [.int (ns.getD 0 0), .int (ns.getD 1 0)])) l = some (.lst (ts.map V.ref)) := by rw [upd_ne (ne_of_none hl ht)]; exact hl
  have qa : addN rs ns = addR rs (ns.getD 0 0) (ns.getD 1 0) := rfl
  rw [qa] at q
  generalize ns.getD 0 0 = a at *
  generalize ns.getD 1 0 = b at *
  have s1 := same_new ht (.tup [.int a, .int b])
  refine ⟨_, rfl, t, a, b, rfl, seqT_new, _, rfl, ?_⟩
  refine ite_bool (fun c => ?_) (fun c => ?_)
  · -- not a rating
    have c' : (rate a && rate b) = false := of_not_t c
    refine ⟨(by show 1 ≤ sizeLine; decide), fun p hp => ?_⟩
    rw [addR, if_pos c'] at q
    have hp0 : H p = none := s1.free hp
    exact q p _ hp0 upd_same ⟨ts, by rw [upd_ne (ne_of_none Hl1 hp)]; exact Hl1, (hts.keep fun b xs e => s1 _ _ e).keep fun b xs e => same_new hp _ _ _ e⟩ (But.of (s1.trans (same_new hp _)))
  · have c' : (rate a && rate b) = true := of_not_f c
    refine ⟨_, rfl, l, _, rfl, .inl (SqL.of Hl1), _, _, rfl, rfl, _, rfl, ?_⟩
    refine ite_bool (fun c2 => ?_) (fun c2 => ?_)
    · -- full
      have c2' : 5 ≤ rs.length := by
        have := of_decide_eq_true c2
        rw [hll] at this
        omega
      refine ⟨(by show 1 ≤ sizeLine; decide), fun p hp => ?_⟩
      rw [addR, if_neg (nf c'), if_pos c2'] at q
      have hp0 : H p = none := s1.free hp
      exact q p _ hp0 upd_same ⟨ts, by rw [upd_ne (ne_of_none Hl1 hp)]; exact Hl1, (hts.keep fun b xs e => s1 _ _ e).keep fun b xs e => same_new hp _ _ _ e⟩ (But.of (s1.trans (same_new hp _)))
    · have c2' : ¬ 5 ≤ rs.length := by
        have := of_decide_eq_false c2
        rw [hll] at this
        omega
      refine ⟨_, rfl, .inl ⟨rfl, _, SqL.of Hl1⟩, _, rfl, l, _, _, rfl, rfl, Hl1, small1000 (by omega), ?_⟩
      refine ⟨_, rfl, l, _, rfl, .inl (SqL.of upd_same), _, _, rfl, rfl, (by show 1 ≤ sizeLine; decide), fun p hp => ?_⟩
      rw [addR, if_neg (nf c'), if_neg c2'] at q
      obtain ⟨ra, rb⟩ := Bool.and_eq_true_iff.mp c'
      have ra := rate_iff.mp ra
      have rb := rate_iff.mp rb
      have el : (((ts.map V.ref ++ [V.ref t]).length : Nat) : Int) - 1 = (rs.length : Int) := by
        rw [List.length_append, hll, List.length_singleton]
        omega
      have s2 : But [l] H (upd (upd H t (.tup [.int a, .int b])) l (.lst (ts.map V.ref ++ [V.ref t]))) := (But.of s1).trans (But.upd _)
      have hp0 : H p = none := by
        cases e : H p with
        | none => rfl
        | some o =>
          have h1 := s1 p o e
          by_cases z : p = l
          · rw [z, upd_same] at hp; cases hp
          · rw [upd_ne z, h1] at hp; cases hp
      have htl : t ≠ l := fun z => by rw [z] at ht; rw [hl] at ht; cases ht
      have hT : RatT (upd (upd H t (.tup [.int a, .int b])) l (.lst (ts.map V.ref ++ [V.ref t]))) t ⟨a.toNat, b.toNat⟩ := by
        show (upd (upd H t (.tup [.int a, .int b])) l (.lst (ts.map V.ref ++ [V.ref t]))) t = some (.tup [.int (a.toNat : Int), .int (b.toNat : Int)])
        rw [upd_ne htl, upd_same, Int.toNat_of_nonneg (by omega), Int.toNat_of_nonneg (by omega)]
      refine q p _ hp0 (by rw [upd_same]; exact congrArg (fun z => some (HO.lst [V.int z])) el) ⟨ts ++ [t], ?_, ?_⟩ (s2.trans (But.of (same_new hp _)))
      · rw [upd_ne (ne_of_none upd_same hp), upd_same, List.map_append]; rfl
      · refine RatLs.keep (H := upd (upd H t (.tup [.int a, .int b])) l (.lst (ts.map V.ref ++ [V.ref t]))) ?_ fun b xs e => same_new hp _ _ _ e
        refine RatLs.add ?_ hT
        exact hts.keep fun b xs e => s2 _ _ e fun z => by
          rw [List.mem_singleton.mp z, hl] at e
          cases e
end
end Mp
/-! He -/
set_option Elab.async false
set_option maxRecDepth 100000
set_option maxHeartbeats 2000000
namespace Mp
open PySem PySem.Spec PyProof.Rows L2
open Sr117 (Shop Rating)
theorem ixN_of {n : Nat} {i : Int} (h0 : 0 ≤ i) (h : i < n) : ixN n i = some i.toNat := by
  unfold ixN
  rw [if_pos h0, if_pos h]
theorem atI_of {α : Type} {xs : List α} {i : Int} {v : α} (h0 : 0 ≤ i) (h : xs[i.toNat]? = some v) : atI xs i = some v := by
  have e : i = ((i.toNat : Nat) : Int) := by omega
  rw [e]
  exact atI_nat h
theorem free_back {H H' : Hp} {l p : Addr} (s : But [l] H H') {o : HO} (hl : H' l = some o) (hp : H' p = none) : H p = none := by
  cases e : H p with
  | none => rfl
  | some u =>
    by_cases z : p = l
    · rw [z, hl] at hp; cases hp
    · rw [s p u e fun m => z (List.mem_singleton.mp m)] at hp; cases hp
theorem map_erase {α β : Type} (g : α → β) : ∀ (l : List α) (i : Nat), (l.map g).eraseIdx i = (l.eraseIdx i).map g
  | [], _ => rfl
  | _ :: _, 0 => rfl
  | a :: l, i + 1 => congrArg (g a :: ·) (map_erase g l i)
theorem get_some {α : Type} {xs : List α} {i : Nat} (h : i < xs.length) : ∃ x, xs[i]? = some x := ⟨_, List.getElem?_eq_getElem h⟩
section
variable {P : Program} {w : World} {K : PySem.W.Frag} {mg : Str → Option Value} {base : Heap} {f : Addr} {fd : FuncData}
theorem scRR : FnScope ["ratings", "numbers", "index"] ["ratings", "numbers"] (defScope sRemR) := ⟨rfl, rfl, rfl, by decide +kernel, rfl, by decide +kernel, by decide +kernel⟩
theorem ok_remR (F : Fun K "remove_rating" "remove_rating" sRemR f fd) (mlen : mg "len" = none) (m1 : Num mg "NO_SUCH_INDEX" (-2))
    (D1 : Def P w K mg base 1 "is_index" ["ratings", "index"] (spIdx K)) : FnOk P w K mg base CX0 2 f fd ["ratings", "numbers"] (spChange K 1 remN) := by
  refine F.ok scRR (fun vs H Q E h => ?_) (fun cdv A outer s H vs Q E hr h => ?_)
  · obtain ⟨l, g, rs, ns, rfl, _⟩ := h
    rfl
  obtain ⟨l, g, rs, ns, rfl, ⟨ts, hl, hts⟩, h5, hg, hne, hn, q⟩ := h
  refine ⟨_, pss_cons (ps_set (i := 2) scRR.nd rfl (Or.inl rfl) (pe_ix ix_list (pv 1) pe_int (fun _ _ => rfl)))
    (pss_cons (ps_if (pt_not (pt_val (pe_callD D1 hr (pa_cons (pv 0) (pa_cons (pv 2) pa_nil))))) (pss_one (ps_ret (pe_lst (pa_cons (pe_num m1) pa_nil)))) pss_nil)
    (pss_cons (ps_expr (pe_bm PySem.F.plainAttrs_list PySem.F.slot_list_pop PySem.F.type_list_pop mt_popAt (pv 0) (pa_cons (pv 2) pa_nil)))
    (pss_one (ps_ret (pe_lst (pa_cons (pe_callB call_len_seq rfl mlen PySem.boot_len (pa_cons (pv 0) pa_nil)) pa_nil)))))), ?_⟩
  have hlen := hts.len
  have hll : (ts.map V.ref).length = rs.length := by rw [List.length_map, hlen]
  refine ⟨_, rfl, g, _, _, _, rfl, rfl, hg, at_int (i := 0) (by omega), ?_⟩
  have qa : remN rs ns = remR rs (ns.getD 0 0) := rfl
  rw [qa] at q
  generalize ns.getD 0 0 = k at *
  refine ⟨_, rfl, _, rfl, l, _, k, rfl, SqL.of hl, _, rfl, ?_⟩
  rw [hll]
  refine ite_bool (fun c => ?_) (fun c => ?_)
  · refine ⟨(by show 1 ≤ sizeLine; decide), fun p hp => ?_⟩
    rw [remR, if_pos (of_not_t c)] at q
    exact q p _ hp upd_same ⟨ts, by rw [upd_ne (ne_of_none hl hp)]; exact hl, hts.keep fun b xs e => same_new hp _ _ _ e⟩ (But.of (same_new hp _))
  · have c' := of_not_f c
    rw [remR, if_neg (nf c')] at q
    obtain ⟨k0, k1⟩ := idx_iff.mp c'
    have hk : k.toNat < ts.length := by omega
    obtain ⟨t, et⟩ := get_some hk
    have hi := ixN_of (n := (ts.map V.ref).length) k0 (by rw [hll]; exact k1)
    refine ⟨_, rfl, .inl ⟨rfl, _, SqL.of hl⟩, _, rfl, l, _, _, k.toNat, .ref t, rfl, rfl, hl, by omega, by omega, (ixN_seq hi).1, by rw [List.getElem?_map, et]; rfl, ?_⟩
    refine ⟨_, rfl, l, _, rfl, .inl (SqL.of upd_same), (by show 1 ≤ sizeLine; decide), fun p hp => ?_⟩
    have s1 : But [l] H (upd H l (.lst ((ts.map V.ref).eraseIdx k.toNat))) := But.upd _
    have el : ((ts.map V.ref).eraseIdx k.toNat).length = rs.length - 1 := by
      rw [List.length_eraseIdx_of_lt (by rw [hll]; omega), hll]
    refine q p _ (free_back s1 upd_same hp) (by rw [upd_same]; exact congrArg (fun z : Nat => some (HO.lst [V.int (z : Int)])) el) ⟨ts.eraseIdx k.toNat, ?_, ?_⟩ (s1.trans (But.of (same_new hp _)))
    · rw [upd_ne (ne_of_none upd_same hp), upd_same, map_erase]
    · refine RatLs.keep (H := upd H l (.lst ((ts.map V.ref).eraseIdx k.toNat))) ?_ fun b xs e => same_new hp _ _ _ e
      refine RatLs.erase ?_ _
      exact hts.keep fun b xs e => s1 _ _ e fun z => by
        rw [List.mem_singleton.mp z, hl] at e
        cases e
theorem scSR : FnScope ["ratings", "numbers", "index", "rating", "old"] ["ratings", "numbers"] (defScope sSetR) := ⟨rfl, rfl, rfl, by decide +kernel, rfl, by decide +kernel, by decide +kernel⟩
theorem ok_setR (F : Fun K "set_rating" "set_rating" sSetR f fd) (m1 : Num mg "NO_SUCH_INDEX" (-2)) (m2 : Num mg "OUT_OF_RANGE" (-22))
    (D1 : Def P w K mg base 1 "is_index" ["ratings", "index"] (spIdx K)) (D2 : Def P w K mg base 1 "is_rating" ["rating"] (spIsRating K)) : FnOk P w K mg base CX0 2 f fd ["ratings", "numbers"] (spChange K 3 setN) := by
  refine F.ok scSR (fun vs H Q E h => ?_) (fun cdv A outer s H vs Q E hr h => ?_)
  · obtain ⟨l, g, rs, ns, rfl, _⟩ := h
    rfl
  obtain ⟨l, g, rs, ns, rfl, ⟨ts, hl, hts⟩, h5, hg, hne, hn, q⟩ := h
  refine ⟨_, pss_cons (ps_set (i := 2) scSR.nd rfl (Or.inl rfl) (pe_ix ix_list (pv 1) pe_int (fun _ _ => rfl)))
    (pss_cons (ps_set (i := 3) scSR.nd rfl (Or.inl rfl) (pe_tup (pa_cons (pe_ix ix_list (pv 1) pe_int (fun _ _ => rfl)) (pa_cons (pe_ix ix_list (pv 1) pe_int (fun _ _ => rfl)) pa_nil))))
    (pss_cons (ps_if (pt_not (pt_val (pe_callD D1 hr (pa_cons (pv 0) (pa_cons (pv 2) pa_nil))))) (pss_one (ps_ret (pe_lst (pa_cons (pe_num m1) pa_nil)))) pss_nil)
    (pss_cons (ps_if (pt_not (pt_val (pe_callD D2 hr (pa_cons (pv 3) pa_nil)))) (pss_one (ps_ret (pe_lst (pa_cons (pe_num m2) pa_nil)))) pss_nil)
    (pss_cons (ps_set (i := 4) scSR.nd rfl (Or.inl rfl) (pe_ix ix_list (pv 0) (pv 2) (fun _ _ => rfl)))
    (pss_cons (ps_asg (pv 3) (pg_sub (pv 0) (pv 2) set_list))
    (pss_one (ps_ret (pe_lst (pa_cons pe_int (pa_cons (pe_ix ix_tup (pv 4) pe_int (fun _ _ => rfl)) (pa_cons (pe_ix ix_tup (pv 4) pe_int (fun _ _ => rfl)) pa_nil))))))))))), ?_⟩
  have hlen := hts.len
  have hll : (ts.map V.ref).length = rs.length := by rw [List.length_map, hlen]
  refine ⟨_, rfl, g, _, _, _, rfl, rfl, hg, at_int (i := 0) (by omega), ?_⟩
  refine ⟨_, rfl, g, _, _, _, rfl, rfl, hg, at_int (i := 1) (by omega), _, rfl, g, _, _, _, rfl, rfl, hg, at_int (i := 2) (by omega), (by show 2 ≤ sizeLine; decide), fun t ht => ?_⟩
  have qa : setN rs ns = setR rs (ns.getD 0 0) (ns.getD 1 0) (ns.getD 2 0) := rfl
  rw [qa] at q
  generalize ns.getD 0 0 = k at *
  generalize ns.getD 1 0 = a at *
  generalize ns.getD 2 0 = b at *
  have s1 := same_new ht (.tup [.int a, .int b])
  have Hl1 := s1 _ _ hl
  refine ⟨_, rfl, _, rfl, l, _, k, rfl, SqL.of Hl1, _, rfl, ?_⟩
  rw [hll]
  refine ite_bool (fun c => ?_) (fun c => ?_)
  · refine ⟨(by show 1 ≤ sizeLine; decide), fun p hp => ?_⟩
    rw [setR, if_pos (of_not_t c)] at q
    exact q p _ (s1.free hp) upd_same ⟨ts, by rw [upd_ne (ne_of_none Hl1 hp)]; exact Hl1, (hts.keep fun b xs e => s1 _ _ e).keep fun b xs e => same_new hp _ _ _ e⟩ (But.of (s1.trans (same_new hp _)))
  · have c' := of_not_f c
    rw [setR, if_neg (nf c')] at q
    obtain ⟨k0, k1⟩ := idx_iff.mp c'
    refine ⟨_, rfl, t, a, b, rfl, seqT_new, _, rfl, ?_⟩
    refine ite_bool (fun c2 => ?_) (fun c2 => ?_)
    · refine ⟨(by show 1 ≤ sizeLine; decide), fun p hp => ?_⟩
      rw [if_pos (of_not_t c2)] at q
      exact q p _ (s1.free hp) upd_same ⟨ts, by rw [upd_ne (ne_of_none Hl1 hp)]; exact Hl1, (hts.keep fun b xs e => s1 _ _ e).keep fun b xs e => same_new hp _ _ _ e⟩ (But.of (s1.trans (same_new hp _)))
    · have c2' := of_not_f c2
      rw [if_neg (nf c2')] at q
      obtain ⟨ra, rb⟩ := Bool.and_eq_true_iff.mp c2'
      have ra := rate_iff.mp ra
      have rb := rate_iff.mp rb
      have hk : k.toNat < rs.length := by omega
      obtain ⟨r, er⟩ := get_some hk
      obtain ⟨u, eu, hu⟩ := hts.get er
      have erD : rs.getD k.toNat ⟨0, 0⟩ = r := by rw [List.getD_eq_getElem?_getD, er]; rfl
      rw [erD] at q
      have hi := ixN_of (n := (ts.map V.ref).length) k0 (by rw [hll]; exact k1)
      refine ⟨_, rfl, _, rfl, l, _, _, .ref u, rfl, rfl, SqL.of Hl1, atI_of k0 (by rw [List.getElem?_map, eu]; rfl), ?_⟩
      refine ⟨_, rfl, _, rfl, _, rfl, l, _, _, k.toNat, rfl, rfl, Hl1, hi, ?_⟩
      have s2 : But [l] H (upd (upd H t (.tup [.int a, .int b])) l (.lst ((ts.map V.ref).set k.toNat (.ref t)))) := (But.of s1).trans (But.upd _)
      have nl : ∀ (b : Addr) (xs : List V), H b = some (.tup xs) → b ∉ [l] := fun b xs e z => by
        rw [List.mem_singleton.mp z, hl] at e
        cases e
      have hu2 := s2 _ _ hu (nl _ _ hu)
      refine ⟨_, rfl, u, _, _, _, rfl, rfl, .inl (.inl hu2), rfl, _, rfl, u, _, _, _, rfl, rfl, .inl (.inl hu2), rfl, (by show 3 ≤ sizeLine; decide), fun p hp => ?_⟩
      have htl : t ≠ l := fun z => by rw [z] at ht; rw [hl] at ht; cases ht
      have hT : RatT (upd (upd H t (.tup [.int a, .int b])) l (.lst ((ts.map V.ref).set k.toNat (.ref t)))) t ⟨a.toNat, b.toNat⟩ := by
        show (upd (upd H t (.tup [.int a, .int b])) l (.lst ((ts.map V.ref).set k.toNat (.ref t)))) t = some (.tup [.int (a.toNat : Int), .int (b.toNat : Int)])
        rw [upd_ne htl, upd_same, Int.toNat_of_nonneg (by omega), Int.toNat_of_nonneg (by omega)]
      refine q p _ (free_back s2 upd_same hp) upd_same ⟨ts.set k.toNat t, ?_, ?_⟩ (s2.trans (But.of (same_new hp _)))
      · rw [upd_ne (ne_of_none upd_same hp), upd_same, List.map_set]
      · refine RatLs.keep (H := upd (upd H t (.tup [.int a, .int b])) l (.lst ((ts.map V.ref).set k.toNat (.ref t)))) ?_ fun b xs e => same_new hp _ _ _ e
        exact RatLs.set (hts.keep fun b xs e => s2 _ _ e (nl _ _ e)) hT _
end
end Mp
/-! Hf0 -/
set_option Elab.async false
set_option maxRecDepth 100000
set_option maxHeartbeats 2000000
namespace Mp
open PySem PySem.Spec PyProof.Rows L2
open Sr117 (Shop Rating)
/-! ### a written dict of defs with whole numbers as keys -/
def entOk (e : DictEntry) (p : Int × Addr) : Prop := (∃ t, e.key = .int p.1 t) ∧ e.hash = hashInt p.1 ∧ e.val = .ref p.2
inductive EntsOk : List DictEntry → List (Int × Addr) → Prop where
  | nil : EntsOk [] []
  | cons {e : DictEntry} {p : Int × Addr} {es : List DictEntry} {ps : List (Int × Addr)} : entOk e p → EntsOk es ps → EntsOk (e :: es) (p :: ps)
def IntDct (K : PySem.W.Frag) (a : Addr) (tab : List (Int × Addr)) : Prop := ∃ es n, K.lookup a = some ⟨.type "dict", none, .dict (List.toArray es) n, #[]⟩ ∧ EntsOk es tab
def tabGet (tab : List (Int × Addr)) (k : Int) : Option Addr := (tab.find? fun p => decide (p.1 = k)).map (·.2)
theorem EntsOk.keys {P : Program} {w : World} {es : List DictEntry} {tab : List (Int × Addr)} (h : EntsOk es tab) : ∀ e ∈ es, ∃ k, (intKind P w).is k e.key = true ∧ e.hash = (intKind P w).hash k := by
  induction h with
  | nil => intro e he; simp at he
  | @cons e p es ps a _ ih =>
    intro e' he
    rcases List.mem_cons.mp he with rfl | he
    · obtain ⟨⟨t, h1⟩, h2, _⟩ := a
      exact ⟨p.1, by rw [h1]; exact intKind_is P w p.1 t, h2⟩
    · exact ih e' he
theorem EntsOk.find {P : Program} {w : World} {es : List DictEntry} {tab : List (Int × Addr)} (h : EntsOk es tab) (k : Int) : findBy (intKind P w).is es.toArray k = (tabGet tab k).map Value.ref := by
  unfold findBy
  rw [List.find?_toArray]
  induction h with
  | nil => rfl
  | @cons e p es ps a _ ih =>
    obtain ⟨⟨t, h1⟩, h2, h3⟩ := a
    unfold tabGet
    rw [List.find?_cons, List.find?_cons]
    have e1 : (intKind P w).is k e.key = decide (p.1 = k) := by
      rw [(intKind P w).is_eq_decide (k := p.1) (v := e.key) (by rw [h1]; exact intKind_is P w p.1 t) k]
      by_cases c : p.1 = k
      · rw [decide_eq_true c, decide_eq_true c.symm]
      · rw [decide_eq_false c, decide_eq_false fun z => c z.symm]
    rw [e1]
    by_cases c : p.1 = k
    · rw [decide_eq_true c]
      show some e.val = some (Value.ref p.2)
      rw [h3]
    · rw [decide_eq_false c]
      exact ih
theorem IntDct.map {P : Program} {w : World} {K : PySem.W.Frag} {h : Heap} {a : Addr} {tab : List (Int × Addr)} (X : K.In h) (d : IntDct K a tab) : h.MapOf (intKind P w) a (fun k => (tabGet tab k).map Value.ref) := by
  obtain ⟨es, n, hl, he⟩ := d
  exact ⟨_, es.toArray, n, X _ _ hl, ⟨rfl, rfl, rfl⟩, rfl, fun e m => he.keys e (by simpa using m), fun k => he.find k⟩
def rIxI (K : PySem.W.Frag) : R2 := fun x y H Q => ∃ p k tab f, x = .ref p ∧ y = .int k ∧ IntDct K p tab ∧ tabGet tab k = some f ∧ Q (.ref f) H
theorem ix_int {X : Cx} : IxR X (rIxI X.K) := by
  intro value slice pins s σ H x y v u Q I rx ry h hs
  obtain ⟨p, k, tab, f, rfl, rfl, d, e, q⟩ := h
  obtain rfl : v = Value.ref p := rx
  obtain ⟨t, rfl⟩ := ry
  have hm := d.map (P := X.prog) (w := X.w) I.kIn
  exact tail_any hm.typeIs slot_dict_getitem.lookup (wpAny_getItem_of (intKind_is X.prog X.w k t) hm (by rw [e]; rfl) ⟨.ref f, H, I.tok _, rfl, q⟩) hs
end Mp
/-! Hf -/
set_option Elab.async false
set_option maxRecDepth 100000
set_option maxHeartbeats 2000000
namespace Mp
open PySem PySem.Spec PyProof.Rows L2
open Sr117 (Shop Rating)
abbrev sInstInit : Stmt := inClass (top 5) 0
abbrev sAddMa : Stmt := top 15
abbrev sAddMo : Stmt := top 16
abbrev sRemMa : Stmt := top 17
abbrev sRemMo : Stmt := top 18
abbrev sSetMa : Stmt := top 19
abbrev sSetMo : Stmt := top 20
abbrev sPerfCh : Stmt := top 22
/-! ### the shop as it lies in the heap -/
theorem lk_here {k : Str} {v : V} {r : List (Str × V)} : List.lookup k ((k, v) :: r) = some v := by
  have e : (k == k) = true := beq_self_eq_true k
  simp only [List.lookup, e]
theorem lk_past {k g : Str} {v : V} {r : List (Str × V)} (h : (k == g) = false) : List.lookup k ((g, v) :: r) = List.lookup k r := by
  simp only [List.lookup, h]
theorem put_here {f : Str} {v x : V} {r : List (Str × V)} : putF f v ((f, x) :: r) = (f, v) :: r := if_pos rfl
theorem put_past {f g : Str} {v x : V} {r : List (Str × V)} (h : ¬ g = f) : putF f v ((g, x) :: r) = (g, x) :: putF f v r := if_neg h
def iF (lm lo : Addr) : List (Str × V) := [("machines", .ref lm), ("moulds", .ref lo)]
theorem iF_ma (lm lo : Addr) : (iF lm lo).lookup ("machines" : Str) = some (.ref lm) := lk_here
theorem iF_mo (lm lo : Addr) : (iF lm lo).lookup ("moulds" : Str) = some (.ref lo) := (lk_past (by decide +kernel)).trans lk_here
theorem iF_new (lm lo : Addr) : putF "moulds" (.ref lo) (putF "machines" (.ref lm) []) = iF lm lo := (put_past (by decide +kernel)).trans rfl
structure InstAt (C : Addr) (H : Hp) (a lm lo : Addr) (s : Shop) : Prop where
  ob : ∃ dx, H a = some (.ins C dx (iF lm lo))
  ne : lm ≠ lo
  ma : RatL H lm s.machines
  mo : RatL H lo s.moulds
  m5 : s.machines.length ≤ 5
  o5 : s.moulds.length ≤ 5
theorem RatL.lst {H : Hp} {l : Addr} {rs : List Rating} (h : RatL H l rs) : ∃ xs, H l = some (.lst xs) := ⟨_, h.choose_spec.1⟩
theorem InstAt.same {C : Addr} {H H' : Hp} {a lm lo : Addr} {s : Shop} (h : InstAt C H a lm lo s) (e : Same H H') : InstAt C H' a lm lo s :=
  ⟨let ⟨dx, h1⟩ := h.ob; ⟨dx, e _ _ h1⟩, h.ne, h.ma.same e, h.mo.same e, h.m5, h.o5⟩
/-- what the written part says of the class -/
structure TInst (K : PySem.W.Frag) (C : Addr) : Prop where
  cl : Cls K C
  n1 : NoAttr K C "machines"
  n2 : NoAttr K C "moulds"
/-- what a call makes of the shop: the answer in a new list, the shop behind, all else as it was -/
def AfterI (C a lm lo : Addr) (out : Shop × List Int) (H : Hp) (Q : VK) : Prop :=
  ∀ (p : Addr) (H' : Hp), H p = none → H' p = some (.lst (out.2.map V.int)) → InstAt C H' a lm lo out.1 → But [lm, lo] H H' → Q (.ref p) H'
def spInst (K : PySem.W.Frag) (C : Addr) (n : Nat) (f : Shop → List Int → Shop × List Int) : Sp := fun vs H Q _ => ∃ (a lm lo g : Addr) (s : Shop) (ns : List Int),
  vs = [.ref a, .ref g] ∧ InstAt C H a lm lo s ∧ SqL K H g (ns.map V.int) ∧ g ≠ lm ∧ g ≠ lo ∧ ns.length = n ∧ AfterI C a lm lo (f s ns) H Q
def onMa (f : List Rating → List Int → List Rating × List Int) (s : Shop) (ns : List Int) : Shop × List Int := (⟨(f s.machines ns).1, s.moulds⟩, (f s.machines ns).2)
def onMo (f : List Rating → List Int → List Rating × List Int) (s : Shop) (ns : List Int) : Shop × List Int := (⟨s.machines, (f s.moulds ns).1⟩, (f s.moulds ns).2)
theorem five_add (rs : List Rating) (ns : List Int) (h : rs.length ≤ 5) : (addN rs ns).1.length ≤ 5 := by
  unfold addN addR
  split
  · exact h
  · split
    · exact h
    · show (rs ++ [_]).length ≤ 5
      rw [List.length_append, List.length_singleton]; omega
theorem five_rem (rs : List Rating) (ns : List Int) (h : rs.length ≤ 5) : (remN rs ns).1.length ≤ 5 := by
  unfold remN remR
  split
  · exact h
  · show (rs.eraseIdx _).length ≤ 5
    have := List.length_eraseIdx_le rs (ns.getD 0 0).toNat
    omega
theorem five_set (rs : List Rating) (ns : List Int) (h : rs.length ≤ 5) : (setN rs ns).1.length ≤ 5 := by
  unfold setN setR
  split
  · exact h
  · split
    · exact h
    · show (rs.set _ _).length ≤ 5
      rw [List.length_set]; exact h
theorem not1 {l m : Addr} (h : m ≠ l) : m ∉ [l] := fun z => h (List.mem_singleton.mp z)
theorem afterMa {C a lm lo : Addr} {f : List Rating → List Int → List Rating × List Int} {s : Shop} {ns : List Int} {H : Hp} {Q : VK} (I : InstAt C H a lm lo s) (f5 : (f s.machines ns).1.length ≤ 5) (q : AfterI C a lm lo (onMa f s ns) H Q) : After lm (f s.machines ns) H Q := by
  intro p H' hp h1 h2 b
  obtain ⟨dx, ho⟩ := I.ob
  obtain ⟨xs, hx⟩ := I.ma.lst
  refine q p H' hp h1 ⟨⟨dx, b _ _ ho (not1 (ne_of ho hx (by intro z; cases z)))⟩, I.ne, h2, I.mo.keep b (not1 I.ne.symm) (fun c hc xs e => ?_), f5, I.o5⟩ (b.mono fun c hc => by rw [List.mem_singleton.mp hc]; exact List.mem_cons_self ..)
  rw [List.mem_singleton.mp hc, hx] at e
  cases e
theorem afterMo {C a lm lo : Addr} {f : List Rating → List Int → List Rating × List Int} {s : Shop} {ns : List Int} {H : Hp} {Q : VK} (I : InstAt C H a lm lo s) (f5 : (f s.moulds ns).1.length ≤ 5) (q : AfterI C a lm lo (onMo f s ns) H Q) : After lo (f s.moulds ns) H Q := by
  intro p H' hp h1 h2 b
  obtain ⟨dx, ho⟩ := I.ob
  obtain ⟨xs, hx⟩ := I.mo.lst
  refine q p H' hp h1 ⟨⟨dx, b _ _ ho (not1 (ne_of ho hx (by intro z; cases z)))⟩, I.ne, I.ma.keep b (not1 I.ne) (fun c hc xs e => ?_), h2, I.m5, f5⟩ (b.mono fun c hc => by rw [List.mem_singleton.mp hc]; exact List.mem_cons_of_mem _ (List.mem_cons_self ..))
  rw [List.mem_singleton.mp hc, hx] at e
  cases e
section
variable {P : Program} {w : World} {K : PySem.W.Frag} {mg : Str → Option Value} {base : Heap} {f C : Addr} {fd : FuncData}
/-! ### Instance() -/
def spInstInit (C : Addr) : Sp := fun vs H Q _ => ∃ (p dx : Addr), vs = [.ref p] ∧ H p = some (.ins C dx []) ∧
  ∀ (lm lo : Addr) (H' : Hp), H lm = none → H lo = none → InstAt C H' p lm lo ⟨[], []⟩ → But [p] H H' → Q .non H'
theorem scN : FnScope ["self"] ["self"] (defScope sInstInit) := ⟨rfl, rfl, rfl, by decide +kernel, rfl, by decide +kernel, by decide +kernel⟩
theorem ok_instInit (F : Fun K "__init__" "Instance.__init__" sInstInit f fd) (T : TInst K C) : FnOk P w K mg base CX0 1 f fd ["self"] (spInstInit C) := by
  refine F.ok scN (fun vs H Q E h => ?_) (fun cdv A outer s H vs Q E hr h => ?_)
  · obtain ⟨p, dx, rfl, _⟩ := h
    rfl
  obtain ⟨p, dx, rfl, hp, q⟩ := h
  refine ⟨_, pss_cons (ps_fld (pv 0) (pe_lst pa_nil) rfl) (pss_one (ps_fld (pv 0) (pe_lst pa_nil) rfl)), ?_⟩
  refine ⟨(by show 0 ≤ sizeLine; decide), fun lm hm => ?_⟩
  have n1 : p ≠ lm := ne_of_none hp hm
  refine ⟨_, rfl, p, C, dx, [], rfl, (by rw [upd_ne n1]; exact hp), T.cl, T.n1, (by show 0 < 1000; decide), (by show 0 ≤ sizeLine; decide), fun lo ho => ?_⟩
  have n2 : p ≠ lo := fun z => by rw [← z, upd_same] at ho; cases ho
  have n3 : lm ≠ lo := fun z => by rw [← z, upd_ne n1.symm, upd_same] at ho; cases ho
  have ho0 : H lo = none := by rw [upd_ne n2.symm, upd_ne n3.symm] at ho; exact ho
  refine ⟨_, rfl, p, C, dx, _, rfl, (by rw [upd_ne n2]; exact upd_same), T.cl, T.n2, (by show 1 < 1000; decide), ?_⟩
  refine q lm lo _ hm ho0 ⟨⟨dx, Eq.trans upd_same (congrArg (fun l => some (HO.ins C dx l)) (iF_new lm lo))⟩, n3, ⟨[], ?_, .nil⟩, ⟨[], ?_, .nil⟩, Nat.zero_le _, Nat.zero_le _⟩ fun b o e nb => ?_
  · rw [upd_ne n1.symm, upd_ne n3, upd_ne n1.symm, upd_same]; rfl
  · rw [upd_ne n2.symm, upd_same]; rfl
  · have nb' : b ≠ p := fun z => nb (by rw [z]; exact List.mem_singleton_self p)
    rw [upd_ne nb', upd_ne (ne_of_none e ho0), upd_ne nb', upd_ne (ne_of_none e hm)]
    exact e
/-! ### the six calls that change it -/
theorem sc_addMa : FnScope ["instance", "numbers"] ["instance", "numbers"] (defScope sAddMa) := ⟨rfl, rfl, rfl, by decide +kernel, rfl, by decide +kernel, by decide +kernel⟩
theorem ok_addMa (F : Fun K "add_machine" "add_machine" sAddMa f fd) (T : TInst K C) (D1 : Def P w K mg base 2 "add_rating" ["ratings", "numbers"] (spChange K 2 addN)) : FnOk P w K mg base CX0 3 f fd ["instance", "numbers"] (spInst K C 2 (onMa addN)) := by
  refine F.ok sc_addMa (fun vs H Q E h => ?_) (fun cdv A outer s H vs Q E hr h => ?_)
  · obtain ⟨a, lm, lo, g, s, ns, rfl, _⟩ := h
    rfl
  obtain ⟨a, lm, lo, g, s, ns, rfl, I, hg, g1, g2, hn, q⟩ := h
  obtain ⟨dx, ho⟩ := I.ob
  refine ⟨_, pss_one (ps_ret (pe_callD D1 hr (pa_cons (pe_fld (pv 0) rfl) (pa_cons (pv 1) pa_nil)))), ?_⟩
  refine ⟨_, rfl, a, C, dx, _, _, rfl, ho, T.cl, T.n1, iF_ma _ _, _, rfl, _, g, _, ns, rfl, I.ma, I.m5, hg, g1, hn, afterMa I (five_add _ _ I.m5) q⟩
theorem sc_addMo : FnScope ["instance", "numbers"] ["instance", "numbers"] (defScope sAddMo) := ⟨rfl, rfl, rfl, by decide +kernel, rfl, by decide +kernel, by decide +kernel⟩
theorem ok_addMo (F : Fun K "add_mould" "add_mould" sAddMo f fd) (T : TInst K C) (D1 : Def P w K mg base 2 "add_rating" ["ratings", "numbers"] (spChange K 2 addN)) : FnOk P w K mg base CX0 3 f fd ["instance", "numbers"] (spInst K C 2 (onMo addN)) := by
  refine F.ok sc_addMo (fun vs H Q E h => ?_) (fun cdv A outer s H vs Q E hr h => ?_)
  · obtain ⟨a, lm, lo, g, s, ns, rfl, _⟩ := h
    rfl
  obtain ⟨a, lm, lo, g, s, ns, rfl, I, hg, g1, g2, hn, q⟩ := h
  obtain ⟨dx, ho⟩ := I.ob
  refine ⟨_, pss_one (ps_ret (pe_callD D1 hr (pa_cons (pe_fld (pv 0) rfl) (pa_cons (pv 1) pa_nil)))), ?_⟩
  refine ⟨_, rfl, a, C, dx, _, _, rfl, ho, T.cl, T.n2, iF_mo _ _, _, rfl, _, g, _, ns, rfl, I.mo, I.o5, hg, g2, hn, afterMo I (five_add _ _ I.o5) q⟩
theorem sc_remMa : FnScope ["instance", "numbers"] ["instance", "numbers"] (defScope sRemMa) := ⟨rfl, rfl, rfl, by decide +kernel, rfl, by decide +kernel, by decide +kernel⟩
theorem ok_remMa (F : Fun K "remove_machine" "remove_machine" sRemMa f fd) (T : TInst K C) (D1 : Def P w K mg base 2 "remove_rating" ["ratings", "numbers"] (spChange K 1 remN)) : FnOk P w K mg base CX0 3 f fd ["instance", "numbers"] (spInst K C 1 (onMa remN)) := by
  refine F.ok sc_remMa (fun vs H Q E h => ?_) (fun cdv A outer s H vs Q E hr h => ?_)
  · obtain ⟨a, lm, lo, g, s, ns, rfl, _⟩ := h
    rfl
  obtain ⟨a, lm, lo, g, s, ns, rfl, I, hg, g1, g2, hn, q⟩ := h
  obtain ⟨dx, ho⟩ := I.ob
  refine ⟨_, pss_one (ps_ret (pe_callD D1 hr (pa_cons (pe_fld (pv 0) rfl) (pa_cons (pv 1) pa_nil)))), ?_⟩
  refine ⟨_, rfl, a, C, dx, _, _, rfl, ho, T.cl, T.n1, iF_ma _ _, _, rfl, _, g, _, ns, rfl, I.ma, I.m5, hg, g1, hn, afterMa I (five_rem _ _ I.m5) q⟩
theorem sc_remMo : FnScope ["instance", "numbers"] ["instance", "numbers"] (defScope sRemMo) := ⟨rfl, rfl, rfl, by decide +kernel, rfl, by decide +kernel, by decide +kernel⟩
theorem ok_remMo (F : Fun K "remove_mould" "remove_mould" sRemMo f fd) (T : TInst K C) (D1 : Def P w K mg base 2 "remove_rating" ["ratings", "numbers"] (spChange K 1 remN)) : FnOk P w K mg base CX0 3 f fd ["instance", "numbers"] (spInst K C 1 (onMo remN)) := by
  refine F.ok sc_remMo (fun vs H Q E h => ?_) (fun cdv A outer s H vs Q E hr h => ?_)
  · obtain ⟨a, lm, lo, g, s, ns, rfl, _⟩ := h
    rfl
  obtain ⟨a, lm, lo, g, s, ns, rfl, I, hg, g1, g2, hn, q⟩ := h
  obtain ⟨dx, ho⟩ := I.ob
  refine ⟨_, pss_one (ps_ret (pe_callD D1 hr (pa_cons (pe_fld (pv 0) rfl) (pa_cons (pv 1) pa_nil)))), ?_⟩
  refine ⟨_, rfl, a, C, dx, _, _, rfl, ho, T.cl, T.n2, iF_mo _ _, _, rfl, _, g, _, ns, rfl, I.mo, I.o5, hg, g2, hn, afterMo I (five_rem _ _ I.o5) q⟩
theorem sc_setMa : FnScope ["instance", "numbers"] ["instance", "numbers"] (defScope sSetMa) := ⟨rfl, rfl, rfl, by decide +kernel, rfl, by decide +kernel, by decide +kernel⟩
theorem ok_setMa (F : Fun K "set_machine" "set_machine" sSetMa f fd) (T : TInst K C) (D1 : Def P w K mg base 2 "set_rating" ["ratings", "numbers"] (spChange K 3 setN)) : FnOk P w K mg base CX0 3 f fd ["instance", "numbers"] (spInst K C 3 (onMa setN)) := by
  refine F.ok sc_setMa (fun vs H Q E h => ?_) (fun cdv A outer s H vs Q E hr h => ?_)
  · obtain ⟨a, lm, lo, g, s, ns, rfl, _⟩ := h
    rfl
  obtain ⟨a, lm, lo, g, s, ns, rfl, I, hg, g1, g2, hn, q⟩ := h
  obtain ⟨dx, ho⟩ := I.ob
  refine ⟨_, pss_one (ps_ret (pe_callD D1 hr (pa_cons (pe_fld (pv 0) rfl) (pa_cons (pv 1) pa_nil)))), ?_⟩
  refine ⟨_, rfl, a, C, dx, _, _, rfl, ho, T.cl, T.n1, iF_ma _ _, _, rfl, _, g, _, ns, rfl, I.ma, I.m5, hg, g1, hn, afterMa I (five_set _ _ I.m5) q⟩
theorem sc_setMo : FnScope ["instance", "numbers"] ["instance", "numbers"] (defScope sSetMo) := ⟨rfl, rfl, rfl, by decide +kernel, rfl, by decide +kernel, by decide +kernel⟩
theorem ok_setMo (F : Fun K "set_mould" "set_mould" sSetMo f fd) (T : TInst K C) (D1 : Def P w K mg base 2 "set_rating" ["ratings", "numbers"] (spChange K 3 setN)) : FnOk P w K mg base CX0 3 f fd ["instance", "numbers"] (spInst K C 3 (onMo setN)) := by
  refine F.ok sc_setMo (fun vs H Q E h => ?_) (fun cdv A outer s H vs Q E hr h => ?_)
  · obtain ⟨a, lm, lo, g, s, ns, rfl, _⟩ := h
    rfl
  obtain ⟨a, lm, lo, g, s, ns, rfl, I, hg, g1, g2, hn, q⟩ := h
  obtain ⟨dx, ho⟩ := I.ob
  refine ⟨_, pss_one (ps_ret (pe_callD D1 hr (pa_cons (pe_fld (pv 0) rfl) (pa_cons (pv 1) pa_nil)))), ?_⟩
  refine ⟨_, rfl, a, C, dx, _, _, rfl, ho, T.cl, T.n2, iF_mo _ _, _, rfl, _, g, _, ns, rfl, I.mo, I.o5, hg, g2, hn, afterMo I (five_set _ _ I.o5) q⟩
end
end Mp
/-! Hg -/
set_option Elab.async false
set_option maxRecDepth 100000
set_option maxHeartbeats 2000000
namespace Mp
open PySem PySem.Spec PyProof.Rows L2
open Sr117 (Shop Rating)
/-! ### a local name that holds one of several defs -/
structure Held1 (P : Program) (w : World) (K : PySem.W.Frag) (mg : Str → Option Value) (base : Heap) (k : Nat) (f : Addr) (sp : Sp) : Prop where
  ex : ∃ (fd : FuncData) (ps : List Str), FnOk P w K mg base CX0 k f fd ps sp ∧ PySem.W.keepIn K (.ref f) = true ∧ Binds K fd ps []
def tCallV (P : Program) (w : World) (K : PySem.W.Frag) (mg : Str → Option Value) (base : Heap) (k i : Nat) (t : TA) : TE := fun σ H Q => ∃ f sp, σ[i]? = some (some (.ref f)) ∧ Held1 P w K mg base k f sp ∧ t σ H fun vs H1 => sp vs H1 Q E0
theorem pe_callV {X : Cx} {k i : Nat} {x : Str} {t : TA} {e : Expr} {es : List Expr} {p pos : Pos} (hr : Room k X.A) (hN : X.N[i]? = some x) (hv : Vis X.env.scope x) (ha : PA X (e :: es) t)
    (hdb : (x == ("__debug__" : Str)) = false := by decide) (hcd : (x == ("__classdict__" : Str)) = false := by decide)
    (he : starEach (e :: es) X.env = (false, eval e X.env) :: starEach es X.env := by rfl) (hpl : (backTo pos (starEach es X.env)).any (·.1) = false := by rfl) : PE X (.Call (.Name x p) (e :: es) [] pos) (tCallV X.prog X.w X.K X.mg X.base k i t) := by
  refine ⟨fun pins s σ H Q I h => ?_⟩
  obtain ⟨f, sp, hs, hS, ht⟩ := h
  obtain ⟨fd, ps, F, hk, hb⟩ := hS.ex
  refine (pe_callL (i := i) (f := f) (sp := sp) (dvs := []) (E := E0) F hr hN hv hk hb .nil pass0 ha hdb hcd he hpl).run pins s σ H Q I ⟨hs, ?_⟩
  have e0 : (fun (vs : List V) (H1 : Hp) => sp (vs ++ []) H1 Q E0) = fun vs H1 => sp vs H1 Q E0 := by
    funext vs H1
    rw [List.append_nil]
  show t σ H (fun vs H1 => sp (vs ++ []) H1 Q E0)
  rw [e0]
  exact ht
/-! ### a call as it lies in the heap -/
def cF (n : Int) (ln lr : Addr) : List (Str × V) := [("number", .int n), ("numbers", .ref ln), ("rows", .ref lr)]
theorem cF_n (n : Int) (ln lr : Addr) : (cF n ln lr).lookup ("number" : Str) = some (.int n) := lk_here
theorem cF_ns (n : Int) (ln lr : Addr) : (cF n ln lr).lookup ("numbers" : Str) = some (.ref ln) := (lk_past (by decide +kernel)).trans lk_here
theorem cF_rs (n : Int) (ln lr : Addr) : (cF n ln lr).lookup ("rows" : Str) = some (.ref lr) := (lk_past (by decide +kernel)).trans ((lk_past (by decide +kernel)).trans lk_here)
theorem cF_new (n : Int) (ln lr : Addr) : putF "rows" (.ref lr) (putF "numbers" (.ref ln) (putF "number" (.int n) [])) = cF n ln lr := by
  have e1 : putF "numbers" (.ref ln) (putF "number" (.int n) []) = ([("number", .int n), ("numbers", .ref ln)] : List (Str × V)) := (put_past (by decide +kernel)).trans rfl
  rw [e1, put_past (by decide +kernel), put_past (by decide +kernel)]
  rfl
inductive RowsAt (H : Hp) : List Addr → List (List Int) → Prop where
  | nil : RowsAt H [] []
  | cons {a : Addr} {r : List Int} {as : List Addr} {rs : List (List Int)} : H a = some (.lst (r.map V.int)) → RowsAt H as rs → RowsAt H (a :: as) (r :: rs)
/-- a call: its number, its whole numbers, its rows -/
structure CallAt (C : Addr) (H : Hp) (c : Addr) (n : Int) (ns : List Int) (rs : List (List Int)) : Prop where
  ex : ∃ (dx ln lr : Addr) (as : List Addr), H c = some (.ins C dx (cF n ln lr)) ∧ H ln = some (.lst (ns.map V.int)) ∧ H lr = some (.lst (as.map V.ref)) ∧ RowsAt H as rs
theorem RowsAt.keep {H H' : Hp} {as : List Addr} {rs : List (List Int)} (h : RowsAt H as rs) (s : Same H H') : RowsAt H' as rs := by
  induction h with
  | nil => exact .nil
  | cons a _ ih => exact .cons (s _ _ a) ih
theorem RowsAt.add {H : Hp} {as : List Addr} {rs : List (List Int)} (h : RowsAt H as rs) {a : Addr} {r : List Int} (x : H a = some (.lst (r.map V.int))) : RowsAt H (as ++ [a]) (rs ++ [r]) := by
  induction h with
  | nil => exact .cons x .nil
  | cons b _ ih => exact .cons b ih
theorem RowsAt.len {H : Hp} {as : List Addr} {rs : List (List Int)} (h : RowsAt H as rs) : as.length = rs.length := by
  induction h with
  | nil => rfl
  | cons _ _ ih => rw [List.length_cons, List.length_cons, ih]
theorem RowsAt.get {H : Hp} {as : List Addr} {rs : List (List Int)} (h : RowsAt H as rs) : ∀ {i : Nat} {r : List Int}, rs[i]? = some r → ∃ a, as[i]? = some a ∧ H a = some (.lst (r.map V.int)) := by
  induction h with
  | nil => intro i r e; simp at e
  | @cons a r as rs x _ ih =>
    intro i r' e
    cases i with
    | zero => exact ⟨a, rfl, by rw [List.getElem?_cons_zero] at e; rw [← Option.some.inj e]; exact x⟩
    | succ i => rw [List.getElem?_cons_succ] at e; obtain ⟨t', h1, h2⟩ := ih e; exact ⟨t', h1, h2⟩
theorem CallAt.same {C : Addr} {H H' : Hp} {c : Addr} {n : Int} {ns : List Int} {rs : List (List Int)} (h : CallAt C H c n ns rs) (s : Same H H') : CallAt C H' c n ns rs := by
  obtain ⟨dx, ln, lr, as, h1, h2, h3, h4⟩ := h.ex
  exact ⟨dx, ln, lr, as, s _ _ h1, s _ _ h2, s _ _ h3, h4.keep s⟩
structure TCall (K : PySem.W.Frag) (C : Addr) : Prop where
  cl : Cls K C
  n1 : NoAttr K C "number"
  n2 : NoAttr K C "numbers"
  n3 : NoAttr K C "rows"
/-- the call lies in a part of the heap that the shop has nothing of -/
structure Apart (H0 H : Hp) (lm lo : Addr) : Prop where
  le : Same H0 H
  fm : H0 lm = none
  fo : H0 lo = none
/-- perform_change, perform_query: a call on a shop -/
def spOn (CI CC : Addr) (ok : Int → List Int → List (List Int) → Prop) (f : Shop → Int → List Int → List (List Int) → Shop × List Int) : Sp := fun vs H Q _ => ∃ (H0 : Hp) (a lm lo c : Addr) (s : Shop) (n : Int) (ns : List Int) (rs : List (List Int)),
  vs = [.ref a, .ref c] ∧ InstAt CI H a lm lo s ∧ Apart H0 H lm lo ∧ CallAt CC H0 c n ns rs ∧ ok n ns rs ∧ AfterI CI a lm lo (f s n ns rs) H Q
/-- calls 1 to 6 -/
def isChange (n : Int) (ns : List Int) (_ : List (List Int)) : Prop := (n = 1 ∧ ns.length = 2) ∨ (n = 2 ∧ ns.length = 2) ∨ (n = 3 ∧ ns.length = 1) ∨ (n = 4 ∧ ns.length = 1) ∨ (n = 5 ∧ ns.length = 3) ∨ (n = 6 ∧ ns.length = 3)
def change (s : Shop) (n : Int) (ns : List Int) (_ : List (List Int)) : Shop × List Int :=
  if n = 1 then onMa addN s ns else if n = 2 then onMo addN s ns else if n = 3 then onMa remN s ns else if n = 4 then onMo remN s ns else if n = 5 then onMa setN s ns else onMo setN s ns
section
variable {P : Program} {w : World} {K : PySem.W.Frag} {mg : Str → Option Value} {base : Heap} {f CI CC d f1 f2 f3 f4 f5 f6 : Addr} {fd : FuncData}
theorem scPC : FnScope ["instance", "call", "change"] ["instance", "call"] (defScope sPerfCh) := ⟨rfl, rfl, rfl, by decide +kernel, rfl, by decide +kernel, by decide +kernel⟩
theorem ok_perfCh (F : Fun K "perform_change" "perform_change" sPerfCh f fd) (T : TInst K CI) (TC : TCall K CC) (md : mg "CHANGES" = some (.ref d)) (hd : IntDct K d [(1, f1), (2, f2), (3, f3), (4, f4), (5, f5), (6, f6)])
    (G1 : Held1 P w K mg base 3 f1 (spInst K CI 2 (onMa addN))) (G2 : Held1 P w K mg base 3 f2 (spInst K CI 2 (onMo addN)))
    (G3 : Held1 P w K mg base 3 f3 (spInst K CI 1 (onMa remN))) (G4 : Held1 P w K mg base 3 f4 (spInst K CI 1 (onMo remN)))
    (G5 : Held1 P w K mg base 3 f5 (spInst K CI 3 (onMa setN))) (G6 : Held1 P w K mg base 3 f6 (spInst K CI 3 (onMo setN))) :
    FnOk P w K mg base CX0 4 f fd ["instance", "call"] (spOn CI CC isChange change) := by
  refine F.ok scPC (fun vs H Q E h => ?_) (fun cdv A outer s H vs Q E hr h => ?_)
  · obtain ⟨H0, a, lm, lo, c, s, n, ns, rs, rfl, _⟩ := h
    rfl
  obtain ⟨H0, a, lm, lo, c, s, n, ns, rs, rfl, I, ap, hc, ok, q⟩ := h
  obtain ⟨dc, ln, lr, as, c1, c2, c3, c4⟩ := hc.ex
  refine ⟨_, pss_cons (ps_set (i := 2) scPC.nd rfl (Or.inl rfl) (pe_ix ix_int (pe_glob (v := V.ref d) rfl md rfl) (pe_fld (pv 1) rfl) (fun _ _ => rfl)))
    (pss_one (ps_ret (pe_callV (i := 2) hr rfl (Or.inl rfl) (pa_cons (pv 0) (pa_cons (pe_fld (pv 1) rfl) pa_nil))))), ?_⟩
  have hg : ∀ m, SqL K H ln (ns.map V.int) ∧ (H0 m = none → ln ≠ m) := fun m => ⟨SqL.of (ap.le _ _ c2), fun z => ne_of_none c2 z⟩
  refine ⟨_, rfl, c, CC, dc, _, _, rfl, ap.le _ _ c1, TC.cl, TC.n1, cF_n _ _ _, ?_⟩
  have fin : ∀ (fn : Addr) (k : Nat) (g : Shop → List Int → Shop × List Int), tabGet [(1, f1), (2, f2), (3, f3), (4, f4), (5, f5), (6, f6)] n = some fn → Held1 P w K mg base 3 fn (spInst K CI k g) → ns.length = k → g s ns = change s n ns rs →
      rIxI K (.ref d) (.int n) H (fun x H' => tRet (tCallV P w K mg base 3 2 (tCons (tVar 0) (tCons (tFld K (tVar 1) "numbers") tNil))) { nx := fun _ H' => Q .non H', rt := Q } ((start ["instance", "call", "change"] [.ref a, .ref c]).set 2 (some x)) H') := by
    intro fn k g e G hk eg
    refine ⟨d, n, _, fn, rfl, rfl, hd, e, ?_⟩
    refine ⟨fn, _, rfl, G, _, rfl, _, rfl, c, CC, dc, _, _, rfl, ap.le _ _ c1, TC.cl, TC.n2, cF_ns _ _ _, ?_⟩
    exact ⟨a, lm, lo, ln, s, ns, rfl, I, (hg lm).1, (hg lm).2 ap.fm, (hg lo).2 ap.fo, hk, eg ▸ q⟩
  rcases ok with ⟨rfl, hk⟩ | ⟨rfl, hk⟩ | ⟨rfl, hk⟩ | ⟨rfl, hk⟩ | ⟨rfl, hk⟩ | ⟨rfl, hk⟩
  · exact fin f1 2 _ rfl G1 hk rfl
  · exact fin f2 2 _ rfl G2 hk rfl
  · exact fin f3 1 _ rfl G3 hk rfl
  · exact fin f4 1 _ rfl G4 hk rfl
  · exact fin f5 3 _ rfl G5 hk rfl
  · exact fin f6 3 _ rfl G6 hk rfl
end
end Mp
/-! Hr -/
set_option Elab.async false
set_option maxRecDepth 100000
set_option maxHeartbeats 2000000
namespace Mp
open PySem PySem.Spec PyProof.Rows L2
abbrev sCallInit : Stmt := inClass (top 65) 0
abbrev sRdInit : Stmt := inClass (top 66) 0
abbrev sRdMore : Stmt := inClass (top 66) 1
abbrev sRdNum : Stmt := inClass (top 66) 2
abbrev sRdNums : Stmt := inClass (top 66) 3
abbrev sRdRow : Stmt := inClass (top 66) 4
abbrev sRdCall : Stmt := inClass (top 66) 5
abbrev sReadAll : Stmt := top 67
/-! ### the reader as it lies in the heap -/
def rF (la : Addr) (p : Int) : List (Str × V) := [("calls", .ref la), ("position", .int p)]
theorem rF_c (la : Addr) (p : Int) : (rF la p).lookup ("calls" : Str) = some (.ref la) := lk_here
theorem rF_p (la : Addr) (p : Int) : (rF la p).lookup ("position" : Str) = some (.int p) := (lk_past (by decide +kernel)).trans lk_here
theorem rF_new (la : Addr) : putF "position" (.int 0) (putF "calls" (.ref la) []) = rF la 0 := (put_past (by decide +kernel)).trans rfl
theorem rF_put (la : Addr) (p q : Int) : putF "position" (.int q) (rF la p) = rF la q := (put_past (by decide +kernel)).trans (congrArg _ put_here)
theorem rF_no {m : Str} (la : Addr) (p : Int) (h1 : (m == ("calls" : Str)) = false) (h2 : (m == ("position" : Str)) = false) : (rF la p).lookup m = none := (lk_past h1).trans ((lk_past h2).trans rfl)
/-- a reader at r, that stands ahead of `rest`, the end of the request -/
structure RdAt (K : PySem.W.Frag) (C : Addr) (H : Hp) (r la : Addr) (l : List Int) (p : Nat) : Prop where
  ex : ∃ (dx : Addr), H r = some (.ins C dx (rF la (p : Int))) ∧ SqL K H la (l.map V.int)
structure TRd (K : PySem.W.Frag) (C : Addr) : Prop where
  cl : Cls K C
  n1 : NoAttr K C "calls"
  n2 : NoAttr K C "position"
theorem seq_but1 {K : PySem.W.Frag} {H H' : Hp} {a r C dx : Addr} {fs : List (Str × V)} {xs : List V} (h : SqL K H a xs) (hr : H r = some (.ins C dx fs)) (b : But [r] H H') : SqL K H' a xs := by
  rcases h with (h | ⟨o, h⟩) | h
  · exact .inl (.inl (b _ _ h (not1 (ne_of h hr (by intro z; cases z)))))
  · exact .inl (.inr ⟨o, b _ _ h (not1 (ne_of h hr (by intro z; cases z)))⟩)
  · exact .inr h
/-- what is new -/
def New (H H' : Hp) : Hp := fun b => if (H b).isSome = true then none else H' b
theorem New.of {H H' : Hp} {b : Addr} {o : HO} (h : H b = none) (h' : H' b = some o) : New H H' b = some o := by
  unfold New
  rw [h]
  exact h'
theorem New.inv {H H' : Hp} {b : Addr} {o : HO} (h : New H H' b = some o) : H b = none ∧ H' b = some o := by
  unfold New at h
  cases e : H b with
  | none => rw [e] at h; exact ⟨rfl, h⟩
  | some u => rw [e] at h; cases h
theorem New.grow {L : List Addr} {H H1 H2 : Hp} (hL : ∀ a ∈ L, (H a).isSome = true) (b : But L H1 H2) : Same (New H H1) (New H H2) := fun c o e => by
  obtain ⟨e1, e2⟩ := New.inv e
  exact New.of e1 (b c o e2 fun z => by have := hL c z; rw [e1] at this; cases this)
theorem New.inner {L : List Addr} {H H1 H2 : Hp} (hL : ∀ a ∈ L, (H1 a).isSome = true) (b : But L H H1) : Same (New H1 H2) (New H H2) := fun c o e => by
  obtain ⟨e1, e2⟩ := New.inv e
  refine New.of ?_ e2
  cases z : H c with
  | none => rfl
  | some u =>
    by_cases m : c ∈ L
    · have := hL c m
      rw [e1] at this
      cases this
    · rw [b c u z m] at e1; cases e1
theorem New.le {H H' : Hp} : Same (New H H') H' := fun _ _ e => (New.inv e).2

/-! ### promises -/
section
variable (K : PySem.W.Frag) (C CC : Addr)
def spCallInit : Sp := fun vs H Q _ => ∃ (p dx ln lr : Addr) (n : Int), vs = [.ref p, .int n, .ref ln, .ref lr] ∧ H p = some (.ins CC dx []) ∧
  ∀ H', H' p = some (.ins CC dx (cF n ln lr)) → But [p] H H' → Q .non H'
def spRdInit : Sp := fun vs H Q _ => ∃ (p dx la : Addr) (l : List Int), vs = [.ref p, .ref la] ∧ H p = some (.ins C dx []) ∧ SqL K H la (l.map V.int) ∧
  ∀ H', RdAt K C H' p la l 0 → But [p] H H' → Q .non H'
def spMore : Sp := fun vs H Q _ => ∃ (r la : Addr) (l : List Int) (p : Nat), vs = [.ref r] ∧ RdAt K C H r la l p ∧ Q (.bl (decide (p < l.length))) H
def spNum : Sp := fun vs H Q _ => ∃ (r la : Addr) (l : List Int) (p : Nat) (n : Int), vs = [.ref r] ∧ RdAt K C H r la l p ∧ l[p]? = some n ∧
  ∀ H', RdAt K C H' r la l (p + 1) → But [r] H H' → Q (.int n) H'
def spNums : Sp := fun vs H Q _ => ∃ (r la : Addr) (l : List Int) (p k : Nat), vs = [.ref r, .int (k : Int)] ∧ RdAt K C H r la l p ∧ p + k ≤ l.length ∧ l.length ≤ 8580 ∧
  ∀ H' a, H a = none → H' a = some (.lst (((l.drop p).take k).map V.int)) → RdAt K C H' r la l (p + k) → But [r] H H' → Q (.ref a) H'
def spRow : Sp := fun vs H Q _ => ∃ (r la : Addr) (l : List Int) (p : Nat) (x t : List Int), vs = [.ref r] ∧ RdAt K C H r la l p ∧ l.length ≤ 8580 ∧ PyFlat.row (l.drop p) = some (x, t) ∧
  ∀ H' a p', H a = none → H' a = some (.lst (x.map V.int)) → RdAt K C H' r la l p' → l.drop p' = t → But [r] H H' → Q (.ref a) H'
def spCall : Sp := fun vs H Q _ => ∃ (r la : Addr) (l : List Int) (p : Nat) (n : Int) (ns : List Int) (xs : List (List Int)) (t : List Int), vs = [.ref r] ∧ RdAt K C H r la l p ∧ l.length ≤ 8580 ∧ PyFlat.call PySr117.shape (l.drop p) = some ((n :: ns) :: xs, t) ∧
  ∀ H' c p', CallAt CC (New H H') c n ns xs → RdAt K C H' r la l p' → l.drop p' = t → But [r] H H' → Q (.ref c) H'
end
section
variable {P : Program} {w : World} {K : PySem.W.Frag} {mg : Str → Option Value} {base : Heap} {f C CC : Addr} {fd : FuncData}
theorem scCI : FnScope ["self", "number", "numbers", "rows"] ["self", "number", "numbers", "rows"] (defScope sCallInit) := ⟨rfl, rfl, rfl, by decide +kernel, rfl, by decide +kernel, by decide +kernel⟩
theorem ok_callInit (F : Fun K "__init__" "Call.__init__" sCallInit f fd) (T : TCall K CC) : FnOk P w K mg base CX0 1 f fd ["self", "number", "numbers", "rows"] (spCallInit CC) := by
  refine F.ok scCI (fun vs H Q E h => ?_) (fun cdv A outer s H vs Q E hr h => ?_)
  · obtain ⟨p, dx, ln, lr, n, rfl, _⟩ := h
    rfl
  obtain ⟨p, dx, ln, lr, n, rfl, hp, q⟩ := h
  refine ⟨_, pss_cons (ps_fld (pv 0) (pv 1) rfl) (pss_cons (ps_fld (pv 0) (pv 2) rfl) (pss_one (ps_fld (pv 0) (pv 3) rfl))), ?_⟩
  refine ⟨_, rfl, _, rfl, p, CC, dx, [], rfl, hp, T.cl, T.n1, (by show 0 < 1000; decide), ?_⟩
  refine ⟨_, rfl, _, rfl, p, CC, dx, _, rfl, upd_same, T.cl, T.n2, (by show 1 < 1000; decide), ?_⟩
  refine ⟨_, rfl, _, rfl, p, CC, dx, _, rfl, upd_same, T.cl, T.n3, (by show 2 < 1000; decide), ?_⟩
  exact q _ (Eq.trans upd_same (congrArg (fun l => some (HO.ins CC dx l)) (cF_new n ln lr))) (((But.upd _).trans (But.upd _)).trans (But.upd _))
theorem scRI : FnScope ["self", "calls"] ["self", "calls"] (defScope sRdInit) := ⟨rfl, rfl, rfl, by decide +kernel, rfl, by decide +kernel, by decide +kernel⟩
theorem ok_rdInit (F : Fun K "__init__" "CallReader.__init__" sRdInit f fd) (T : TRd K C) : FnOk P w K mg base CX0 1 f fd ["self", "calls"] (spRdInit K C) := by
  refine F.ok scRI (fun vs H Q E h => ?_) (fun cdv A outer s H vs Q E hr h => ?_)
  · obtain ⟨p, dx, la, l, rfl, _⟩ := h
    rfl
  obtain ⟨p, dx, la, l, rfl, hp, hS, q⟩ := h
  refine ⟨_, pss_cons (ps_fld (pv 0) (pv 1) rfl) (pss_one (ps_fld (pv 0) pe_int rfl)), ?_⟩
  refine ⟨_, rfl, _, rfl, p, C, dx, [], rfl, hp, T.cl, T.n1, (by show 0 < 1000; decide), ?_⟩
  refine ⟨_, rfl, p, C, dx, _, rfl, upd_same, T.cl, T.n2, (by show 1 < 1000; decide), ?_⟩
  have b := (But.upd (H := H) (l := p) (.ins C dx (putF "calls" (V.ref la) []))).trans (But.upd (.ins C dx (putF "position" (.int 0) (putF "calls" (V.ref la) []))))
  exact q _ ⟨dx, Eq.trans upd_same (congrArg (fun l => some (HO.ins C dx l)) (rF_new la)), seq_but1 hS hp b⟩ b
theorem scRM : FnScope ["self"] ["self"] (defScope sRdMore) := ⟨rfl, rfl, rfl, by decide +kernel, rfl, by decide +kernel, by decide +kernel⟩
theorem ok_more (F : Fun K "has_more" "CallReader.has_more" sRdMore f fd) (T : TRd K C) (mlen : mg "len" = none) : FnOk P w K mg base CX0 1 f fd ["self"] (spMore K C) := by
  refine F.ok scRM (fun vs H Q E h => ?_) (fun cdv A outer s H vs Q E hr h => ?_)
  · obtain ⟨r, la, l, p, rfl, _⟩ := h
    rfl
  obtain ⟨r, la, l, p, rfl, R, q⟩ := h
  obtain ⟨dx, h1, h2⟩ := R.ex
  refine ⟨_, pss_one (ps_ret (pe_cmpR op_lt (pe_fld (pv 0) rfl) (pe_callB call_len_seq rfl mlen PySem.boot_len (pa_cons (pe_fld (pv 0) rfl) pa_nil)) (nomark _))), ?_⟩
  refine ⟨_, rfl, r, C, dx, _, _, rfl, h1, T.cl, T.n2, rF_p _ _, _, rfl, r, C, dx, _, _, rfl, h1, T.cl, T.n1, rF_c _ _, la, _, rfl, .inl h2, _, _, rfl, rfl, ?_⟩
  have e : decide ((p : Int) < (((l.map V.int).length : Nat) : Int)) = decide (p < l.length) := by
    rw [List.length_map]
    exact decide_eq_decide.mpr (by omega)
  show Q (.bl (decide ((p : Int) < (((l.map V.int).length : Nat) : Int)))) H
  rw [e]
  exact q
theorem scRN : FnScope ["self", "number"] ["self"] (defScope sRdNum) := ⟨rfl, rfl, rfl, by decide +kernel, rfl, by decide +kernel, by decide +kernel⟩
theorem ok_num (F : Fun K "take_number" "CallReader.take_number" sRdNum f fd) (T : TRd K C) : FnOk P w K mg base CX0 1 f fd ["self"] (spNum K C) := by
  refine F.ok scRN (fun vs H Q E h => ?_) (fun cdv A outer s H vs Q E hr h => ?_)
  · obtain ⟨r, la, l, p, n, rfl, _⟩ := h
    rfl
  obtain ⟨r, la, l, p, n, rfl, R, hn, q⟩ := h
  obtain ⟨dx, h1, h2⟩ := R.ex
  refine ⟨_, pss_cons (ps_set (i := 1) scRN.nd rfl (Or.inl rfl) (pe_ix ix_list (pe_fld (pv 0) rfl) (pe_fld (pv 0) rfl) (fun _ _ => rfl)))
    (pss_cons (ps_fldaug (pv 0) pe_int in_add) (pss_one (ps_ret (pv 1)))), ?_⟩
  refine ⟨_, rfl, r, C, dx, _, _, rfl, h1, T.cl, T.n1, rF_c _ _, _, rfl, r, C, dx, _, _, rfl, h1, T.cl, T.n2, rF_p _ _, la, _, _, .int n, rfl, rfl, h2, atI_nat (by rw [List.getElem?_map, hn]; rfl), ?_⟩
  refine ⟨_, rfl, r, C, dx, _, _, rfl, h1, T.cl, T.n2, rF_p _ _, _, _, rfl, rfl, dx, _, h1, (by show 2 < 1000; decide), ?_⟩
  refine ⟨_, rfl, ?_⟩
  have e : putF "position" (.int ((p : Int) + 1)) (rF la (p : Int)) = rF la ((p + 1 : Nat) : Int) := by rw [rF_put]; exact congrArg (rF la) (by omega)
  have b := But.upd (H := H) (l := r) (.ins C dx (putF "position" (.int ((p : Int) + 1)) (rF la (p : Int))))
  exact q _ ⟨dx, Eq.trans upd_same (congrArg (fun l => some (HO.ins C dx l)) e), seq_but1 h2 h1 b⟩ b
end
end Mp
/-! Hs -/
set_option Elab.async false
set_option maxRecDepth 100000
set_option maxHeartbeats 2000000
namespace Mp
open PySem PySem.Spec PyProof.Rows L2
theorem cut_mid (xs : List V) (a k : Nat) (h : a + k ≤ xs.length) : cutV xs (some ((a : Nat) : Int)) (some ((a : Int) + (k : Int))) = (xs.drop a).take k := by
  have e : (a : Int) + (k : Int) = ((a + k : Nat) : Int) := by omega
  unfold cutV
  rw [e, HT.sIx_nat, HT.sIx_nat, Nat.min_eq_left (by omega), Nat.min_eq_left (by omega)]
  congr 1
  omega
section
variable {P : Program} {w : World} {K : PySem.W.Frag} {mg : Str → Option Value} {base : Heap} {f C CC fN fNs fR : Addr} {fd : FuncData}
theorem scRNs : FnScope ["self", "how_many", "start"] ["self", "how_many"] (defScope sRdNums) := ⟨rfl, rfl, rfl, by decide +kernel, rfl, by decide +kernel, by decide +kernel⟩
theorem ok_nums (F : Fun K "take_numbers" "CallReader.take_numbers" sRdNums f fd) (T : TRd K C) : FnOk P w K mg base CX0 1 f fd ["self", "how_many"] (spNums K C) := by
  refine F.ok scRNs (fun vs H Q E h => ?_) (fun cdv A outer s H vs Q E hr h => ?_)
  · obtain ⟨r, la, l, p, n, rfl, _⟩ := h
    rfl
  obtain ⟨r, la, l, p, k, rfl, R, hk, h85, q⟩ := h
  obtain ⟨dx, h1, h2⟩ := R.ex
  refine ⟨_, pss_cons (ps_set (i := 2) scRNs.nd rfl (Or.inl rfl) (pe_fld (pv 0) rfl))
    (pss_cons (ps_fldaug (pv 0) (pv 1) in_add) (pss_one (ps_ret (pe_slice sl_list (pe_fld (pv 0) rfl) (po_some (pv 2)) (po_some (pe_fld (pv 0) rfl)))))), ?_⟩
  refine ⟨_, rfl, r, C, dx, _, _, rfl, h1, T.cl, T.n2, rF_p _ _, ?_⟩
  refine ⟨_, rfl, r, C, dx, _, _, rfl, h1, T.cl, T.n2, rF_p _ _, _, rfl, _, _, rfl, rfl, dx, _, h1, (by show 2 < 1000; decide), ?_⟩
  have e : putF "position" (.int ((p : Int) + (k : Int))) (rF la (p : Int)) = rF la ((p + k : Nat) : Int) := by rw [rF_put]; exact congrArg (rF la) (by omega)
  have b := But.upd (H := H) (l := r) (.ins C dx (putF "position" (.int ((p : Int) + (k : Int))) (rF la (p : Int))))
  have g1 : (upd H r (.ins C dx (putF "position" (.int ((p : Int) + (k : Int))) (rF la (p : Int))))) r = some (.ins C dx (rF la ((p + k : Nat) : Int))) := Eq.trans upd_same (congrArg (fun l => some (HO.ins C dx l)) e)
  have g2 := seq_but1 h2 h1 b
  refine ⟨_, rfl, r, C, dx, _, _, rfl, g1, T.cl, T.n1, rF_c _ _, _, rfl, _, rfl, _, rfl, r, C, dx, _, _, rfl, g1, T.cl, T.n2, rF_p _ _, _, rfl, la, _, rfl, g2, fun a ha => ?_⟩
  have ar : a ≠ r := fun z => by rw [z, g1] at ha; cases ha
  have ha0 : H a = none := by rw [upd_ne ar] at ha; exact ha
  refine q _ a ha0 ?_ ⟨dx, by rw [upd_ne ar.symm]; exact g1, seq_ne g2 ha _⟩ (b.trans (But.of (same_new ha _)))
  have e2 : cutV (l.map V.int) (some ((p : Nat) : Int)) (some ((p + k : Nat) : Int)) = ((l.drop p).take k).map V.int := by
    have e3 : ((p + k : Nat) : Int) = (p : Int) + (k : Int) := by omega
    rw [e3, cut_mid _ p k (by rw [List.length_map]; exact hk), List.map_take, List.map_drop]
  rw [upd_same]
  exact congrArg (fun z => some (HO.lst z)) e2
/-- one number at the front of what is left -/
theorem front {l : List Int} {p : Nat} {n : Int} {t : List Int} (h : l.drop p = n :: t) : l[p]? = some n ∧ l.drop (p + 1) = t ∧ p < l.length := by
  have hp : p < l.length := by
    have : (l.drop p).length = t.length + 1 := by rw [h, List.length_cons]
    rw [List.length_drop] at this
    omega
  have e := List.drop_eq_getElem_cons hp
  rw [h] at e
  obtain ⟨e1, e2⟩ := List.cons.inj e
  exact ⟨by rw [List.getElem?_eq_getElem hp, e1], e2.symm, hp⟩
theorem row_front {l x t : List Int} (h : PyFlat.row l = some (x, t)) : ∃ n r, l = n :: r ∧ 0 ≤ n ∧ n.toNat ≤ r.length ∧ x = r.take n.toNat ∧ t = r.drop n.toNat := by
  cases l with
  | nil => cases h
  | cons n r =>
    have h' : (if 0 ≤ n ∧ n.toNat ≤ r.length then some (r.take n.toNat, r.drop n.toNat) else none) = some (x, t) := h
    by_cases k : 0 ≤ n ∧ n.toNat ≤ r.length
    · rw [if_pos k] at h'
      obtain ⟨e1, e2⟩ := Prod.mk.inj (Option.some.inj h')
      exact ⟨n, r, rfl, k.1, k.2, e1.symm, e2.symm⟩
    · rw [if_neg k] at h'
      cases h'
theorem scRR2 : FnScope ["self", "how_many"] ["self"] (defScope sRdRow) := ⟨rfl, rfl, rfl, by decide +kernel, rfl, by decide +kernel, by decide +kernel⟩
theorem ok_row (F : Fun K "take_row" "CallReader.take_row" sRdRow f fd) (T : TRd K C)
    {gN gNs : FuncData} (GN : FnOk P w K mg base CX0 1 fN gN ["self"] (spNum K C)) (bN : Binds K gN ["self"] []) (mN : Meth K C "take_number" fN)
    (GNs : FnOk P w K mg base CX0 1 fNs gNs ["self", "how_many"] (spNums K C)) (bNs : Binds K gNs ["self", "how_many"] []) (mNs : Meth K C "take_numbers" fNs) : FnOk P w K mg base CX0 2 f fd ["self"] (spRow K C) := by
  refine F.ok scRR2 (fun vs H Q E h => ?_) (fun cdv A outer s H vs Q E hr h => ?_)
  · obtain ⟨r, la, l, p, x, t, rfl, _⟩ := h
    rfl
  obtain ⟨r, la, l, p, x, t, rfl, R, h85, hx, q⟩ := h
  obtain ⟨n, rest, el, n0, nl, ex, et⟩ := row_front hx
  obtain ⟨f1, f2, f3⟩ := front el
  refine ⟨_, pss_cons (ps_set (i := 1) scRR2.nd rfl (Or.inl rfl) (pe_meth0 (pv 0) T.cl mN GN hr bN .nil pass0))
    (pss_one (ps_ret (pe_meth (pv 0) T.cl mNs GNs hr bNs .nil pass0 (pa_cons (pv 1) pa_nil)))), ?_⟩
  obtain ⟨dx, h1, h2⟩ := R.ex
  refine ⟨_, rfl, r, dx, _, rfl, h1, rF_no _ _ (by decide +kernel) (by decide +kernel), r, la, l, p, n, rfl, R, f1, fun H1 R1 b1 => ?_⟩
  obtain ⟨dx1, g1, g2⟩ := id R1.ex
  have en : ((n.toNat : Nat) : Int) = n := Int.toNat_of_nonneg n0
  have lr : rest.length = l.length - (p + 1) := by rw [← f2, List.length_drop]
  refine ⟨_, rfl, r, dx1, _, rfl, g1, rF_no _ _ (by decide +kernel) (by decide +kernel), _, rfl, r, la, l, p + 1, n.toNat, by rw [en]; rfl, R1, by omega, h85, fun H2 a ha hl R2 b2 => ?_⟩
  have ha0 : H a = none := free_back b1 g1 ha
  refine q H2 a _ ha0 ?_ R2 ?_ (b1.trans b2)
  · rw [hl, f2, ex]
  · rw [et, ← f2, List.drop_drop]
end
end Mp
/-! Ht -/
set_option Elab.async false
set_option maxRecDepth 100000
set_option maxHeartbeats 2000000
namespace Mp
open PySem PySem.Spec PyProof.Rows L2
/-! ### written tuples -/
def TupK (K : PySem.W.Frag) (a : Addr) (xs : List V) : Prop := ∀ H, SqT K H a xs
structure FormsAt (K : PySem.W.Frag) (dF : Addr) : Prop where
  ex : ∃ as : List Addr, TupK K dF (as.map V.ref) ∧ as.length = 17 ∧ ∀ (i : Nat) (a : Addr), as[i]? = some a → ∃ k m : Nat, PySr117.shape (i : Int) = some (k, m) ∧ TupK K a [.int (k : Int), .int (m : Int)]
theorem shape_lt {n : Int} {q : Nat × Nat} (h : PySr117.shape n = some q) : 0 ≤ n ∧ n < 17 := by
  by_cases c : 0 ≤ n ∧ n < 17
  · exact c
  · exfalso
    have a0 : ¬ n = 0 := by omega
    have a1 : ¬ n = 1 := by omega
    have a2 : ¬ n = 2 := by omega
    have a3 : ¬ n = 3 := by omega
    have a4 : ¬ n = 4 := by omega
    have a5 : ¬ n = 5 := by omega
    have a6 : ¬ n = 6 := by omega
    have a7 : ¬ n = 7 := by omega
    have a8 : ¬ n = 8 := by omega
    have a9 : ¬ n = 9 := by omega
    have a10 : ¬ n = 10 := by omega
    have a11 : ¬ n = 11 := by omega
    have a12 : ¬ n = 12 := by omega
    have a13 : ¬ n = 13 := by omega
    have a14 : ¬ n = 14 := by omega
    have a15 : ¬ n = 15 := by omega
    have a16 : ¬ n = 16 := by omega
    rw [PySr117.shape, if_neg a0, if_neg a1, if_neg a2, if_neg a3, if_neg a4, if_neg a5, if_neg a6, if_neg a7, if_neg a8, if_neg a9, if_neg a10, if_neg a11, if_neg a12, if_neg a13, if_neg a14, if_neg a15, if_neg a16] at h
    cases h
theorem call_front {l : List Int} {n : Int} {ns : List Int} {xs : List (List Int)} {t : List Int} (h : PyFlat.call PySr117.shape l = some ((n :: ns) :: xs, t)) :
    ∃ r k m, l = n :: r ∧ PySr117.shape n = some (k, m) ∧ k ≤ r.length ∧ ns = r.take k ∧ PyFlat.rows m (r.drop k) = some (xs, t) := by
  cases l with
  | nil => cases h
  | cons p r =>
    have h' : (match PySr117.shape p with
      | none => none
      | some (n, k) => if r.length < n then none else match PyFlat.rows k (r.drop n) with
        | none => none
        | some (ys, u) => some ((p :: r.take n) :: ys, u)) = some ((n :: ns) :: xs, t) := h
    cases e : PySr117.shape p with
    | none => rw [e] at h'; cases h'
    | some q =>
      obtain ⟨k, m⟩ := q
      rw [e] at h'
      dsimp only at h'
      by_cases hl : r.length < k
      · rw [if_pos hl] at h'; cases h'
      · rw [if_neg hl] at h'
        cases e2 : PyFlat.rows m (r.drop k) with
        | none => rw [e2] at h'; cases h'
        | some q2 =>
          obtain ⟨ys, u⟩ := q2
          rw [e2] at h'
          dsimp only at h'
          obtain ⟨e3, e4⟩ := Prod.mk.inj (Option.some.inj h')
          obtain ⟨e5, e6⟩ := List.cons.inj e3
          obtain ⟨e7, e8⟩ := List.cons.inj e5
          subst e7
          exact ⟨r, k, m, rfl, e, by omega, e8.symm, by rw [e2, e6, e4]⟩
theorem rows_front {m : Nat} {l : List Int} {xs : List (List Int)} {t : List Int} (h : PyFlat.rows (m + 1) l = some (xs, t)) : ∃ x u ys, PyFlat.row l = some (x, u) ∧ PyFlat.rows m u = some (ys, t) ∧ xs = x :: ys := by
  have h' : (match PyFlat.row l with
      | none => none
      | some (y, t) => match PyFlat.rows m t with
        | none => none
        | some (ys, u) => some (y :: ys, u)) = some (xs, t) := h
  cases e : PyFlat.row l with
  | none => rw [e] at h'; cases h'
  | some q =>
    obtain ⟨y, u⟩ := q
    rw [e] at h'
    dsimp only at h'
    cases e2 : PyFlat.rows m u with
    | none => rw [e2] at h'; cases h'
    | some q2 =>
      obtain ⟨ys, v⟩ := q2
      rw [e2] at h'
      dsimp only at h'
      obtain ⟨e3, e4⟩ := Prod.mk.inj (Option.some.inj h')
      subst e4
      exact ⟨y, u, ys, rfl, e2, e3.symm⟩
theorem shape_rows {n : Int} {k m : Nat} (h : PySr117.shape n = some (k, m)) : m ≤ 2 := by
  obtain ⟨h0, h1⟩ := shape_lt h
  have c : n = 0 ∨ n = 1 ∨ n = 2 ∨ n = 3 ∨ n = 4 ∨ n = 5 ∨ n = 6 ∨ n = 7 ∨ n = 8 ∨ n = 9 ∨ n = 10 ∨ n = 11 ∨ n = 12 ∨ n = 13 ∨ n = 14 ∨ n = 15 ∨ n = 16 := by omega
  rcases c with rfl | rfl | rfl | rfl | rfl | rfl | rfl | rfl | rfl | rfl | rfl | rfl | rfl | rfl | rfl | rfl | rfl <;> (simp [PySr117.shape] at h; omega)
/-! ### a heap without one object -/
def Off (l : Addr) (H : Hp) : Hp := fun b => if b = l then none else H b
theorem Off.of {l b : Addr} {H : Hp} {o : HO} (n : b ≠ l) (h : H b = some o) : Off l H b = some o := by
  unfold Off
  rw [if_neg n]
  exact h
theorem Off.inv {l b : Addr} {H : Hp} {o : HO} (h : Off l H b = some o) : b ≠ l ∧ H b = some o := by
  unfold Off at h
  by_cases e : b = l
  · rw [if_pos e] at h; cases h
  · rw [if_neg e] at h; exact ⟨e, h⟩
theorem Off.le {l : Addr} {H : Hp} : Same (Off l H) H := fun _ _ h => (Off.inv h).2
theorem Off.upd {l : Addr} {H : Hp} {o : HO} : Same (Off l H) (Off l (upd H l o)) := fun c u h => by
  obtain ⟨h1, h2⟩ := Off.inv h
  exact Off.of h1 (by rw [upd_ne h1]; exact h2)
theorem Off.mono {l : Addr} {H H' : Hp} (h : Same H H') : Same (Off l H) (Off l H') := fun c u e => by
  obtain ⟨h1, h2⟩ := Off.inv e
  exact Off.of h1 (h _ _ h2)
theorem But.two {L M : List Addr} {H H1 H2 : Hp} (a : But L H H1) (b : But M H1 H2) (hM : ∀ x ∈ M, x ∈ L ∨ H x = none) : But L H H2 := fun c o e n => b c o (a c o e n) fun z => by
  rcases hM c z with q | q
  · exact n q
  · rw [q] at e; cases e
theorem sub_one {l : Addr} {H : Hp} {o : HO} (h : H l = some o) : ∀ a ∈ [l], (H a).isSome = true := fun a m => by rw [List.mem_singleton.mp m, h]; rfl
section
variable {P : Program} {w : World} {K : PySem.W.Frag} {mg : Str → Option Value} {base : Heap} {f C CC dF fN fNs fR fI : Addr} {fd : FuncData}
theorem scRC : FnScope ["self", "number", "form", "numbers", "rows"] ["self"] (defScope sRdCall) := ⟨rfl, rfl, rfl, by decide +kernel, rfl, by decide +kernel, by decide +kernel⟩
theorem ok_call (F : Fun K "take_call" "CallReader.take_call" sRdCall f fd) (T : TRd K C) (mlen : mg "len" = none) (mF : mg "CALL_FORMS" = some (.ref dF)) (hF : FormsAt K dF)
    {gN gNs gR gI : FuncData} (GN : FnOk P w K mg base CX0 1 fN gN ["self"] (spNum K C)) (bN : Binds K gN ["self"] []) (mN : Meth K C "take_number" fN)
    (GNs : FnOk P w K mg base CX0 1 fNs gNs ["self", "how_many"] (spNums K C)) (bNs : Binds K gNs ["self", "how_many"] []) (mNs : Meth K C "take_numbers" fNs)
    (GR : FnOk P w K mg base CX0 2 fR gR ["self"] (spRow K C)) (bR : Binds K gR ["self"] []) (mR : Meth K C "take_row" fR)
    (M : Mk K CC fI) (mC : mg "Call" = some (.ref CC)) (GI : FnOk P w K mg base CX0 1 fI gI ["self", "number", "numbers", "rows"] (spCallInit CC)) (bI : Binds K gI ["self", "number", "numbers", "rows"] []) :
    FnOk P w K mg base CX0 3 f fd ["self"] (spCall K C CC) := by
  refine F.ok scRC (fun vs H Q E h => ?_) (fun cdv A outer s H vs Q E hr h => ?_)
  · obtain ⟨r, la, l, p, n, ns, xs, t, rfl, _⟩ := h
    rfl
  obtain ⟨r, la, l, p, n, ns, xs, t, rfl, R, h85, hc, q⟩ := h
  obtain ⟨rest, k, m, el, hs, hk, ens, hrows⟩ := call_front hc
  obtain ⟨f1, f2, f3⟩ := front el
  have hr1 : Room 1 _ := hr.mono (by decide)
  refine ⟨_, pss_cons (ps_set (i := 1) scRC.nd rfl (Or.inl rfl) (pe_meth0 (pv 0) T.cl mN GN hr1 bN .nil pass0))
    (pss_cons (ps_set (i := 2) scRC.nd rfl (Or.inl rfl) (pe_ix ix_tup (pe_glob (v := V.ref dF) rfl mF rfl) (pv 1) (fun _ _ => rfl)))
    (pss_cons (ps_set (i := 3) scRC.nd rfl (Or.inl rfl) (pe_meth (pv 0) T.cl mNs GNs hr1 bNs .nil pass0 (pa_cons (pe_ix ix_tup (pv 2) pe_int (fun _ _ => rfl)) pa_nil)))
    (pss_cons (ps_set (i := 4) scRC.nd rfl (Or.inl rfl) (pe_lst pa_nil))
    (pss_cons (ps_while PassesOwn.never (pt_cmpR op_lt (pe_callB call_len_seq rfl mlen PySem.boot_len (pa_cons (pv 4) pa_nil)) (pe_ix ix_tup (pv 2) pe_int (fun _ _ => rfl)) (nomark _))
      (pss_one (ps_expr (pe_bm PySem.F.plainAttrs_list PySem.F.slot_list_append PySem.F.type_list_append mt_append (pv 4) (pa_cons (pe_meth0 (pv 0) T.cl mR GR hr bR .nil pass0) pa_nil)))))
    (pss_one (ps_ret (pe_make M GI hr rfl mC bI .nil pass0 (pa_cons (pv 1) (pa_cons (pv 3) (pa_cons (pv 4) pa_nil)))))))))), ?_⟩
  obtain ⟨dx, h1, h2⟩ := id R.ex
  -- number = self.take_number()
  refine ⟨_, rfl, r, dx, _, rfl, h1, rF_no _ _ (by decide +kernel) (by decide +kernel), r, la, l, p, n, rfl, R, f1, fun H1 R1 b1 => ?_⟩
  obtain ⟨dx1, g1, g2⟩ := id R1.ex
  -- form = CALL_FORMS[number]
  obtain ⟨as, hA, hA17, hAs⟩ := hF.ex
  obtain ⟨n0, n17⟩ := shape_lt hs
  obtain ⟨fa, hfa⟩ := get_some (xs := as) (i := n.toNat) (by omega)
  obtain ⟨k', m', hs', hT⟩ := hAs n.toNat fa hfa
  rw [Int.toNat_of_nonneg n0, hs] at hs'
  cases hs'
  refine ⟨_, rfl, dF, _, n, .ref fa, rfl, rfl, hA H1, atI_of n0 (by rw [List.getElem?_map, hfa]; rfl), ?_⟩
  -- numbers = self.take_numbers(form[0])
  have lr : rest.length = l.length - (p + 1) := by rw [← f2, List.length_drop]
  refine ⟨_, rfl, r, dx1, _, rfl, g1, rF_no _ _ (by decide +kernel) (by decide +kernel), _, rfl, fa, _, _, _, rfl, rfl, hT H1, rfl, r, la, l, p + 1, k, rfl, R1, by omega, h85, fun H2 ln hln0 hln R2 b2 => ?_⟩
  have hln' : ns = (l.drop (p + 1)).take k := by rw [f2]; exact ens
  rw [← hln'] at hln
  -- rows = []
  refine ⟨(by show 0 ≤ sizeLine; decide), fun lr hlr => ?_⟩
  obtain ⟨dx2, i1, i2⟩ := id R2.ex
  have rlr : r ≠ lr := fun z => by rw [← z, i1] at hlr; cases hlr
  have b12 : But [r] H H2 := b1.trans b2
  have hr2 : H r ≠ none := fun z => by rw [h1] at z; cases z
  have lr0 : H lr = none := free_back b12 i1 hlr
  have b3 : But [r] H (upd H2 lr (.lst [])) := b12.trans (But.of (same_new hlr _))
  have nln : ln ≠ lr := fun z => by rw [← z, hln] at hlr; cases hlr
  have ln0 : H ln = none := free_back b1 g1 hln0
  have nlnr : ln ≠ r := fun z => by rw [z, h1] at ln0; cases ln0
  -- the loop: as many rows as the form says are left
  refine ⟨fun left σ H' => ∃ (bs : List Addr) (done todo : List (List Int)) (p' : Nat), σ = [some (.ref r), some (.int n), some (.ref fa), some (.ref ln), some (.ref lr)] ∧ RdAt K C H' r la l p' ∧ But [r] H H' ∧
      H' lr = some (.lst (bs.map V.ref)) ∧ RowsAt (Off lr (New H H')) bs done ∧ Off lr (New H H') ln = some (.lst (ns.map V.int)) ∧ done ++ todo = xs ∧ done.length + left = m ∧ PyFlat.rows left (l.drop p') = some (todo, t),
    ⟨m, [], [], xs, p + 1 + k, rfl, ⟨dx2, by rw [upd_ne rlr]; exact i1, seq_ne i2 hlr _⟩, b3, upd_same, .nil, Off.of nln (New.of ln0 (by rw [upd_ne nln]; exact hln)), rfl, by simp, by rw [← List.drop_drop, f2]; exact hrows⟩, ?_⟩
  rintro left σ H' ⟨bs, done, todo, p', rfl, R', b', hl', hrs, hns, hxs, hm, hrow⟩
  have hlen := hrs.len
  refine ⟨_, rfl, lr, _, rfl, .inl (SqL.of hl'), _, rfl, fa, _, _, _, rfl, rfl, hT H', rfl, _, _, rfl, rfl, _, rfl, ?_⟩
  rw [List.length_map, hlen]
  obtain ⟨dx', j1, j2⟩ := id R'.ex
  refine ite_bool (fun c => ?_) (fun c => ?_)
  · have c' := of_decide_eq_true c
    cases left with
    | zero => omega
    | succ left =>
      obtain ⟨x, u, ys, hx, hrow', et⟩ := rows_front hrow
      subst et
      refine ⟨_, fun σ' H'' z => ⟨left, Nat.lt_succ_self _, z⟩, ?_⟩
      refine ⟨_, rfl, .inl ⟨rfl, _, SqL.of hl'⟩, _, rfl, r, dx', _, rfl, j1, rF_no _ _ (by decide +kernel) (by decide +kernel), r, la, l, p', x, u, rfl, R', h85, hx, fun H'' a p'' ha0 ha R'' ep b'' => ?_⟩
      have hl'' : H'' lr = some (.lst (bs.map V.ref)) := b'' _ _ hl' (not1 rlr.symm)
      refine ⟨lr, _, _, rfl, rfl, hl'', small1000 (by have := shape_rows hs; rw [List.length_map]; omega), ?_⟩
      obtain ⟨dx'', k1, k2⟩ := id R''.ex
      have alr : a ≠ lr := fun z => by rw [z, hl'] at ha0; cases ha0
      have a0 : H a = none := free_back b' j1 ha0
      have grow : Same (New H H') (New H H'') := New.grow (sub_one h1) b''
      have bN : But [r] H (upd H'' lr (.lst (bs.map V.ref ++ [.ref a]))) := (b'.trans b'').two (But.upd _) fun z hz => .inr (by rw [List.mem_singleton.mp hz]; exact lr0)
      have g2 : Same (Off lr (New H H'')) (Off lr (New H (upd H'' lr (.lst (bs.map V.ref ++ [.ref a]))))) := fun z o e => by
        obtain ⟨e1, e2⟩ := Off.inv e
        obtain ⟨e3, e4⟩ := New.inv e2
        exact Off.of e1 (New.of e3 (by rw [upd_ne e1]; exact e4))
      have gg := (Off.mono (l := lr) grow).trans g2
      refine ⟨bs ++ [a], done ++ [x], ys, p'', rfl, ⟨dx'', by rw [upd_ne rlr]; exact k1, seq_but1 h2 h1 bN⟩, bN, ?_, (hrs.keep gg).add (Off.of alr (New.of a0 (by rw [upd_ne alr]; exact ha))), gg _ _ hns, by rw [List.append_assoc]; exact hxs, by rw [List.length_append, List.length_singleton]; omega, by rw [ep]; exact hrow'⟩
      rw [upd_same, List.map_append]; rfl
  · have c' := of_decide_eq_false c
    have l0 : left = 0 := by omega
    subst l0
    have hrow0 : (some ([], l.drop p') : Option (List (List Int) × List Int)) = some (todo, t) := hrow
    obtain ⟨e1, e2⟩ := Prod.mk.inj (Option.some.inj hrow0)
    subst e1
    rw [List.append_nil] at hxs
    subst hxs
    -- return Call(number, numbers, rows)
    refine ⟨_, rfl, _, rfl, _, rfl, ?_⟩
    intro x dc nx ndc nexd
    refine ⟨x, dc, ln, lr, n, rfl, upd_same, fun H'' hx b'' => ⟨rfl, ?_⟩⟩
    have sm : Same H' H'' := Same.made (C := CC) nx ndc fun b o e nb => b'' b o e (not1 nb)
    have bb : But [r] H H'' := b'.trans (But.of sm)
    have x0 : H x = none := free_back b' j1 nx
    have xlr : x ≠ lr := fun z => by rw [z, hl'] at nx; cases nx
    have gr : Same (New H H') (New H H'') := New.grow (L := []) (fun _ m => nomatch m) fun b o e _ => sm b o e
    refine q H'' x p' ⟨dc, ln, lr, bs, New.of x0 hx, gr _ _ (Off.le _ _ hns), New.of lr0 (sm _ _ hl'), hrs.keep (Off.le.trans gr)⟩ ⟨dx', sm _ _ j1, seq_but1 h2 h1 bb⟩ e2 bb
end
end Mp
/-! Hu -/
set_option Elab.async false
set_option maxRecDepth 100000
set_option maxHeartbeats 2000000
namespace Mp
open PySem PySem.Spec PyProof.Rows L2
inductive CallsAt (CC : Addr) (H : Hp) : List Addr → List (List (List Int)) → Prop where
  | nil : CallsAt CC H [] []
  | cons {a : Addr} {n : Int} {ns : List Int} {xs : List (List Int)} {as : List Addr} {cs : List (List (List Int))} : CallAt CC H a n ns xs → CallsAt CC H as cs → CallsAt CC H (a :: as) (((n :: ns) :: xs) :: cs)
theorem CallsAt.same {CC : Addr} {H H' : Hp} {as : List Addr} {cs : List (List (List Int))} (h : CallsAt CC H as cs) (s : Same H H') : CallsAt CC H' as cs := by
  induction h with
  | nil => exact .nil
  | cons a _ ih => exact .cons (a.same s) ih
theorem CallsAt.add {CC : Addr} {H : Hp} {as : List Addr} {cs : List (List (List Int))} (h : CallsAt CC H as cs) {a : Addr} {n : Int} {ns : List Int} {xs : List (List Int)} (x : CallAt CC H a n ns xs) : CallsAt CC H (as ++ [a]) (cs ++ [(n :: ns) :: xs]) := by
  induction h with
  | nil => exact .cons x .nil
  | cons b _ ih => exact .cons b ih
theorem CallsAt.len {CC : Addr} {H : Hp} {as : List Addr} {cs : List (List (List Int))} (h : CallsAt CC H as cs) : as.length = cs.length := by
  induction h with
  | nil => rfl
  | cons _ _ ih => rw [List.length_cons, List.length_cons, ih]
theorem CallsAt.get {CC : Addr} {H : Hp} {as : List Addr} {cs : List (List (List Int))} (h : CallsAt CC H as cs) : ∀ {i : Nat} {a : Addr}, as[i]? = some a → ∃ n ns xs, cs[i]? = some ((n :: ns) :: xs) ∧ CallAt CC H a n ns xs := by
  induction h with
  | nil => intro i a e; simp at e
  | @cons a n ns xs as cs x _ ih =>
    intro i a' e
    cases i with
    | zero => rw [List.getElem?_cons_zero] at e; cases e; exact ⟨n, ns, xs, rfl, x⟩
    | succ i => rw [List.getElem?_cons_succ] at e; obtain ⟨n', ns', xs', h1, h2⟩ := ih e; exact ⟨n', ns', xs', h1, h2⟩
theorem calls_nil {sh : Int → Option (Nat × Nat)} {f : Nat} {cs : List (List (List Int))} (h : PyFlat.calls sh f [] = some cs) : cs = [] := by
  cases f <;> (have e : (some [] : Option (List (List (List Int)))) = some cs := h; exact (Option.some.inj e).symm)
theorem calls_cons {f : Nat} {n : Int} {r : List Int} {cs : List (List (List Int))} (h : PyFlat.calls PySr117.shape f (n :: r) = some cs) :
    ∃ f' ns xs t todo, PyFlat.call PySr117.shape (n :: r) = some ((n :: ns) :: xs, t) ∧ PyFlat.calls PySr117.shape f' t = some todo ∧ cs = ((n :: ns) :: xs) :: todo := by
  cases f with
  | zero => cases h
  | succ f =>
    have h' : (match PyFlat.call PySr117.shape (n :: r) with
      | none => none
      | some (d, t) => match PyFlat.calls PySr117.shape f t with
        | none => none
        | some ds => some (d :: ds)) = some cs := h
    cases e : PyFlat.call PySr117.shape (n :: r) with
    | none => rw [e] at h'; cases h'
    | some q =>
      obtain ⟨d, t⟩ := q
      rw [e] at h'
      dsimp only at h'
      cases e2 : PyFlat.calls PySr117.shape f t with
      | none => rw [e2] at h'; cases h'
      | some ds =>
        rw [e2] at h'
        dsimp only at h'
        have e3 := Option.some.inj h'
        obtain ⟨pu, p, a, xs, ed, _⟩ := PyFlat.call_inv e
        subst ed
        have pu' : n :: r = p :: (a ++ PyFlat.putRows xs ++ t) := pu
        have e4 := (List.cons.inj pu').1
        subst e4
        exact ⟨f, a, xs, t, ds, rfl, e2, e3.symm⟩
def spReadAll (K : PySem.W.Frag) (CC : Addr) : Sp := fun vs H Q _ => ∃ (la : Addr) (l : List Int) (cs : List (List (List Int))) (f : Nat), vs = [.ref la] ∧ SqL K H la (l.map V.int) ∧ l.length ≤ 8580 ∧ PyFlat.calls PySr117.shape f l = some cs ∧ cs.length ≤ 60 ∧
  ∀ H' g as, H g = none → H' g = some (.lst (as.map V.ref)) → CallsAt CC (Off g (New H H')) as cs → Same H H' → Q (.ref g) H'
section
variable {P : Program} {w : World} {K : PySem.W.Frag} {mg : Str → Option Value} {base : Heap} {f C CC fI fM fC : Addr} {fd : FuncData}
theorem scRA : FnScope ["calls", "reader", "found"] ["calls"] (defScope sReadAll) := ⟨rfl, rfl, rfl, by decide +kernel, rfl, by decide +kernel, by decide +kernel⟩
theorem ok_readAll (F : Fun K "read_calls" "read_calls" sReadAll f fd) (T : TRd K C)
    {gI gM gC : FuncData} (MR : Mk K C fI) (mR : mg "CallReader" = some (.ref C)) (GI : FnOk P w K mg base CX0 1 fI gI ["self", "calls"] (spRdInit K C)) (bI : Binds K gI ["self", "calls"] [])
    (GM : FnOk P w K mg base CX0 1 fM gM ["self"] (spMore K C)) (bM : Binds K gM ["self"] []) (mM : Meth K C "has_more" fM)
    (GC : FnOk P w K mg base CX0 3 fC gC ["self"] (spCall K C CC)) (bC : Binds K gC ["self"] []) (mC : Meth K C "take_call" fC) : FnOk P w K mg base CX0 4 f fd ["calls"] (spReadAll K CC) := by
  refine F.ok scRA (fun vs H Q E h => ?_) (fun cdv A outer s H vs Q E hr h => ?_)
  · obtain ⟨la, l, cs, f, rfl, _⟩ := h
    rfl
  obtain ⟨la, l, cs, fu, rfl, hS, h85, hcs, h60, q⟩ := h
  have hr1 : Room 1 _ := hr.mono (by decide)
  have hr2 : Room 2 _ := hr.mono (by decide)
  refine ⟨_, pss_cons (ps_set (i := 1) scRA.nd rfl (Or.inl rfl) (pe_make MR GI hr2 rfl mR bI .nil pass0 (pa_cons (pv 0) pa_nil)))
    (pss_cons (ps_set (i := 2) scRA.nd rfl (Or.inl rfl) (pe_lst pa_nil))
    (pss_cons (ps_while PassesOwn.never (pt_val (pe_meth0 (pv 1) T.cl mM GM hr1 bM .nil pass0))
      (pss_one (ps_expr (pe_bm PySem.F.plainAttrs_list PySem.F.slot_list_append PySem.F.type_list_append mt_append (pv 2) (pa_cons (pe_meth0 (pv 1) T.cl mC GC hr bC .nil pass0) pa_nil)))))
    (pss_one (ps_ret (pv 2))))), ?_⟩
  -- reader = CallReader(calls)
  refine ⟨_, rfl, ?_⟩
  intro r dr nr ndr ner
  refine ⟨r, dr, la, l, rfl, upd_same, ?_, fun H1 R1 b1 => ⟨rfl, ?_⟩⟩
  · have s0 : Same H (upd (upd H dr (.own r)) r (.ins C dr [])) := fun b o e => by
      rw [upd_ne (ne_of_none e nr), upd_ne (ne_of_none e ndr)]
      exact e
    exact s0.seq hS
  have s1 : Same H H1 := Same.made nr ndr fun b o e nb => b1 b o e (not1 nb)
  -- found = []
  refine ⟨(by show 0 ≤ sizeLine; decide), fun g hg => ?_⟩
  obtain ⟨dx, h1⟩ := R1.ex
  obtain ⟨h1, h2⟩ := h1
  have rg : r ≠ g := ne_of_none h1 hg
  have g0 : H g = none := s1.free hg
  have hG : (upd H1 g (.lst [])) g = some (.lst []) := upd_same
  have hR : (upd H1 g (.lst [])) r = some (.ins C dx (rF la ((0 : Nat) : Int))) := by rw [upd_ne rg]; exact h1
  have sG : Same H (upd H1 g (.lst [])) := s1.trans (same_new hg _)
  have R2 : RdAt K C (upd H1 g (.lst [])) r la l 0 := ⟨dx, hR, seq_ne h2 hg _⟩
  generalize upd H1 g (.lst []) = HB at *
  refine ⟨fun left σ H' => ∃ (as : List Addr) (done todo : List (List (List Int))) (p' fu' : Nat), σ = [some (.ref la), some (.ref r), some (.ref g)] ∧ RdAt K C H' r la l p' ∧ But [r, g] HB H' ∧
      H' g = some (.lst (as.map V.ref)) ∧ CallsAt CC (New HB H') as done ∧ done ++ todo = cs ∧ left = todo.length ∧ PyFlat.calls PySr117.shape fu' (l.drop p') = some todo,
    ⟨cs.length, [], [], cs, 0, fu, rfl, R2, fun _ _ e _ => e, hG, .nil, rfl, rfl, hcs⟩, ?_⟩
  rintro left σ H' ⟨as, done, todo, p', fu', rfl, R', b', hg', hC, hd, hl, hq⟩
  obtain ⟨dx', j1, j2⟩ := id R'.ex
  refine ⟨_, rfl, r, dx', _, rfl, j1, rF_no _ _ (by decide +kernel) (by decide +kernel), r, la, l, p', rfl, R', _, rfl, ?_⟩
  refine ite_bool (fun c => ?_) (fun c => ?_)
  · have c' := of_decide_eq_true c
    have ed := List.drop_eq_getElem_cons c'
    rw [ed] at hq
    obtain ⟨f', ns, xs, t, todo', hc, ht, et⟩ := calls_cons hq
    rw [← ed] at hc
    subst et
    refine ⟨_, fun σ' H'' z => ⟨todo'.length, by rw [hl, List.length_cons]; exact Nat.lt_succ_self _, z⟩, ?_⟩
    refine ⟨_, rfl, .inl ⟨rfl, _, SqL.of hg'⟩, _, rfl, r, dx', _, rfl, j1, rF_no _ _ (by decide +kernel) (by decide +kernel), r, la, l, p', _, ns, xs, t, rfl, R', h85, hc, fun H'' c p'' hcA R'' ep b'' => ?_⟩
    have hg'' : H'' g = some (.lst (as.map V.ref)) := b'' _ _ hg' (not1 rg.symm)
    have hal := hC.len
    have hdl : done.length ≤ 60 := by
      have := congrArg List.length hd
      rw [List.length_append] at this
      omega
    refine ⟨g, _, _, rfl, rfl, hg'', small1000 (by rw [List.length_map]; omega), ?_⟩
    have bB : But [r, g] HB H'' := fun z o e n => b'' z o (b' z o e n) fun m => n (by rw [List.mem_singleton.mp m]; exact List.mem_cons_self ..)
    have bB2 : But [r, g] HB (upd H'' g (.lst (as.map V.ref ++ [.ref c]))) := fun z o e n => by
      have zg : z ≠ g := fun m => n (by rw [m]; exact List.mem_cons_of_mem _ (List.mem_cons_self ..))
      rw [upd_ne zg]
      exact bB z o e n
    have rB : ∀ z ∈ [r, g], (HB z).isSome = true := fun z m => by
      rcases List.mem_cons.mp m with rfl | m
      · rw [hR]; rfl
      · rw [List.mem_singleton.mp m, hG]; rfl
    have rB' : ∀ z ∈ [r, g], (H' z).isSome = true := fun z m => by
      rcases List.mem_cons.mp m with rfl | m
      · rw [j1]; rfl
      · rw [List.mem_singleton.mp m, hg']; rfl
    have gr1 : Same (New HB H') (New HB H'') := New.grow (L := [r]) (fun z m => rB z (by rw [List.mem_singleton.mp m]; exact List.mem_cons_self ..)) b''
    have gr2 : Same (New HB H'') (New HB (upd H'' g (.lst (as.map V.ref ++ [.ref c])))) := New.grow (L := [g]) (fun z m => rB z (by rw [List.mem_singleton.mp m]; exact List.mem_cons_of_mem _ (List.mem_cons_self ..))) (But.upd _)
    have gr3 : Same (New H' H'') (New HB H'') := New.inner (L := [r, g]) rB' b'
    obtain ⟨dx'', k1, k2⟩ := id R''.ex
    refine ⟨as ++ [c], done ++ [(_ :: ns) :: xs], todo', p'', f', rfl, ⟨dx'', by rw [upd_ne rg]; exact k1, ?_⟩, bB2, ?_, ((hC.same gr1).add (hcA.same gr3)).same gr2, by rw [List.append_assoc]; exact hd, rfl, by rw [ep]; exact ht⟩
    · have sH : Same H (upd H'' g (.lst (as.map V.ref ++ [.ref c]))) := fun z o e => bB2 z o (sG z o e) fun m => by
        rcases List.mem_cons.mp m with rfl | m
        · rw [nr] at e; cases e
        · rw [List.mem_singleton.mp m, g0] at e; cases e
      exact sH.seq hS
    · rw [upd_same, List.map_append]; rfl
  · have c' := of_decide_eq_false c
    rw [List.drop_eq_nil_of_le (by omega)] at hq
    have := calls_nil hq
    subst this
    rw [List.append_nil] at hd
    subst hd
    refine ⟨_, rfl, ?_⟩
    have sH : Same H H' := fun z o e => b' z o (sG z o e) fun m => by
      rcases List.mem_cons.mp m with rfl | m
      · rw [nr] at e; cases e
      · rw [List.mem_singleton.mp m, g0] at e; cases e
    refine q H' g as g0 hg' (hC.same fun z o e => ?_) sH
    obtain ⟨e1, e2⟩ := New.inv e
    refine Off.of (fun m => by rw [m, hG] at e1; cases e1) (New.of ?_ e2)
    exact sG.free e1
end
end Mp
/-! Hv -/
set_option Elab.async false
set_option maxRecDepth 100000
set_option maxHeartbeats 2000000
/-! The specification's step, call by call; what is asked of a request. -/
namespace Mp
open Sr117 (Shop Rating)
theorem whole_id (c : List (List Int)) : PySr117.whole c = c := by
  unfold PySr117.whole
  split <;> rfl
/-- what is due of a call on a shop: the shop behind, the answer -/
def due (s : Shop) (n : Int) (ns : List Int) (xs : List (List Int)) : Shop × List Int :=
  ((Sr117Neutral.step (some s) ((n :: ns) :: xs)).1.getD s, (Sr117Neutral.step (some s) ((n :: ns) :: xs)).2)
/-- a call as the document lets it be handed in -/
structure OkCall (n : Int) (ns : List Int) (xs : List (List Int)) : Prop where
  sh : PySr117.shape n = some (ns.length, xs.length)
  len : ∀ x ∈ xs, x.length ≤ 70
  nb : ∀ z ∈ ns, -2147483648 ≤ z ∧ z ≤ 2147483647
  rb : ∀ x ∈ xs, ∀ z ∈ x, -2147483648 ≤ z ∧ z ≤ 2147483647
theorem mem_get {α : Type} {l : List α} {P : α → Prop} (h : ∀ x ∈ l, P x) {i : Nat} {x : α} (e : l[i]? = some x) : P x := h x (List.mem_of_getElem? e)
theorem len0 {α : Type} {l : List α} (h : l.length = 0) : l = [] := List.eq_nil_of_length_eq_zero h
theorem len1 {α : Type} {l : List α} (h : l.length = 1) : ∃ a, l = [a] := by
  match l, h with
  | [a], _ => exact ⟨a, rfl⟩
theorem len2 {α : Type} {l : List α} (h : l.length = 2) : ∃ a b, l = [a, b] := by
  match l, h with
  | [a, b], _ => exact ⟨a, b, rfl⟩
theorem len3 {α : Type} {l : List α} (h : l.length = 3) : ∃ a b c, l = [a, b, c] := by
  match l, h with
  | [a, b, c], _ => exact ⟨a, b, c, rfl⟩
theorem due_of {s : Shop} {n : Int} {ns : List Int} {xs : List (List Int)} {call : Sr117.Call} (h : Sr117Neutral.parseCall ((n :: ns) :: xs) = some call) (hc : call ≠ .create) :
    due s n ns xs = ((Sr117.perform s call).1.getD s, (Sr117.perform s call).2.code :: (Sr117.perform s call).2.values) := by
  unfold due Sr117Neutral.step
  rw [h]
  dsimp only
  have e : Sr117.step (some s) call = match Sr117.perform s call with
      | (some changed, result) => (some changed, result)
      | (none, result) => (some s, result) := by
    unfold Sr117.step
    cases call <;> first | rfl | exact absurd rfl hc
  rw [e]
  cases e2 : Sr117.perform s call with
  | mk a b =>
    cases a <;> rfl
theorem or_false_iff {a b : Int} : (Sr117.isRating a = false ∨ Sr117.isRating b = false) ↔ (rate a && rate b) = false := by
  show (rate a = false ∨ rate b = false) ↔ _
  cases rate a <;> cases rate b <;> simp
theorem due_addMa (s : Shop) (a b : Int) : due s 1 [a, b] [] = onMa addN s [a, b] := by
  rw [due_of (call := .addMachine a b) rfl (by intro h; cases h)]
  show ((Sr117.perform s (.addMachine a b)).1.getD s, _) = ((⟨(addR s.machines a b).1, s.moulds⟩ : Shop), (addR s.machines a b).2)
  unfold Sr117.perform addR
  dsimp only
  by_cases c : (rate a && rate b) = false
  · rw [if_pos (or_false_iff.mpr c), if_pos c]; rfl
  · rw [if_neg (fun z => c (or_false_iff.mp z)), if_neg c]
    by_cases c2 : 5 ≤ s.machines.length
    · rw [if_pos (show Sr117.maxMachines ≤ s.machines.length from c2), if_pos c2]; rfl
    · rw [if_neg (show ¬ Sr117.maxMachines ≤ s.machines.length from c2), if_neg c2]; rfl
theorem due_addMo (s : Shop) (a b : Int) : due s 2 [a, b] [] = onMo addN s [a, b] := by
  rw [due_of (call := .addMould a b) rfl (by intro h; cases h)]
  show ((Sr117.perform s (.addMould a b)).1.getD s, _) = ((⟨s.machines, (addR s.moulds a b).1⟩ : Shop), (addR s.moulds a b).2)
  unfold Sr117.perform addR
  dsimp only
  by_cases c : (rate a && rate b) = false
  · rw [if_pos (or_false_iff.mpr c), if_pos c]; rfl
  · rw [if_neg (fun z => c (or_false_iff.mp z)), if_neg c]
    by_cases c2 : 5 ≤ s.moulds.length
    · rw [if_pos (show Sr117.maxMoulds ≤ s.moulds.length from c2), if_pos c2]; rfl
    · rw [if_neg (show ¬ Sr117.maxMoulds ≤ s.moulds.length from c2), if_neg c2]; rfl
theorem due_remMa (s : Shop) (a : Int) : due s 3 [a] [] = onMa remN s [a] := by
  rw [due_of (call := .removeMachine a) rfl (by intro h; cases h)]
  show ((Sr117.perform s (.removeMachine a)).1.getD s, _) = ((⟨(remR s.machines a).1, s.moulds⟩ : Shop), (remR s.machines a).2)
  unfold Sr117.perform remR
  dsimp only
  by_cases c : idx a s.machines.length = false
  · rw [if_pos (show Sr117.isMachine s a = false from c), if_pos c]; rfl
  · rw [if_neg (show ¬ Sr117.isMachine s a = false from c), if_neg c]; rfl
theorem due_remMo (s : Shop) (a : Int) : due s 4 [a] [] = onMo remN s [a] := by
  rw [due_of (call := .removeMould a) rfl (by intro h; cases h)]
  show ((Sr117.perform s (.removeMould a)).1.getD s, _) = ((⟨s.machines, (remR s.moulds a).1⟩ : Shop), (remR s.moulds a).2)
  unfold Sr117.perform remR
  dsimp only
  by_cases c : idx a s.moulds.length = false
  · rw [if_pos (show Sr117.isMould s a = false from c), if_pos c]; rfl
  · rw [if_neg (show ¬ Sr117.isMould s a = false from c), if_neg c]; rfl
theorem due_setMa (s : Shop) (k a b : Int) : due s 5 [k, a, b] [] = onMa setN s [k, a, b] := by
  rw [due_of (call := .setMachine k a b) rfl (by intro h; cases h)]
  show ((Sr117.perform s (.setMachine k a b)).1.getD s, _) = ((⟨(setR s.machines k a b).1, s.moulds⟩ : Shop), (setR s.machines k a b).2)
  unfold Sr117.perform setR
  dsimp only
  by_cases c : idx k s.machines.length = false
  · rw [if_pos (show Sr117.isMachine s k = false from c), if_pos c]; rfl
  · rw [if_neg (show ¬ Sr117.isMachine s k = false from c), if_neg c]
    by_cases c : (rate a && rate b) = false
    · rw [if_pos (or_false_iff.mpr c), if_pos c]; rfl
    · rw [if_neg (fun z => c (or_false_iff.mp z)), if_neg c]; rfl
theorem due_setMo (s : Shop) (k a b : Int) : due s 6 [k, a, b] [] = onMo setN s [k, a, b] := by
  rw [due_of (call := .setMould k a b) rfl (by intro h; cases h)]
  show ((Sr117.perform s (.setMould k a b)).1.getD s, _) = ((⟨s.machines, (setR s.moulds k a b).1⟩ : Shop), (setR s.moulds k a b).2)
  unfold Sr117.perform setR
  dsimp only
  by_cases c : idx k s.moulds.length = false
  · rw [if_pos (show Sr117.isMould s k = false from c), if_pos c]; rfl
  · rw [if_neg (show ¬ Sr117.isMould s k = false from c), if_neg c]
    by_cases c : (rate a && rate b) = false
    · rw [if_pos (or_false_iff.mpr c), if_pos c]; rfl
    · rw [if_neg (fun z => c (or_false_iff.mp z)), if_neg c]; rfl
/-- calls 1 to 6 -/
theorem change_is {s : Shop} {n : Int} {ns : List Int} {xs : List (List Int)} (h : OkCall n ns xs) (h1 : 1 ≤ n) (h6 : n < 7) : isChange n ns xs ∧ change s n ns xs = due s n ns xs := by
  have hs := h.sh
  have c : n = 1 ∨ n = 2 ∨ n = 3 ∨ n = 4 ∨ n = 5 ∨ n = 6 := by omega
  rcases c with rfl | rfl | rfl | rfl | rfl | rfl
  · have e : (some (2, 0) : Option (Nat × Nat)) = some (ns.length, xs.length) := hs
    obtain ⟨e1, e2⟩ := Prod.mk.inj (Option.some.inj e)
    obtain ⟨a, b, rfl⟩ := len2 e1.symm
    have := len0 e2.symm
    subst this
    exact ⟨.inl ⟨rfl, rfl⟩, (due_addMa s a b).symm⟩
  · have e : (some (2, 0) : Option (Nat × Nat)) = some (ns.length, xs.length) := hs
    obtain ⟨e1, e2⟩ := Prod.mk.inj (Option.some.inj e)
    obtain ⟨a, b, rfl⟩ := len2 e1.symm
    have := len0 e2.symm
    subst this
    exact ⟨.inr (.inl ⟨rfl, rfl⟩), (due_addMo s a b).symm⟩
  · have e : (some (1, 0) : Option (Nat × Nat)) = some (ns.length, xs.length) := hs
    obtain ⟨e1, e2⟩ := Prod.mk.inj (Option.some.inj e)
    obtain ⟨a, rfl⟩ := len1 e1.symm
    have := len0 e2.symm
    subst this
    exact ⟨.inr (.inr (.inl ⟨rfl, rfl⟩)), (due_remMa s a).symm⟩
  · have e : (some (1, 0) : Option (Nat × Nat)) = some (ns.length, xs.length) := hs
    obtain ⟨e1, e2⟩ := Prod.mk.inj (Option.some.inj e)
    obtain ⟨a, rfl⟩ := len1 e1.symm
    have := len0 e2.symm
    subst this
    exact ⟨.inr (.inr (.inr (.inl ⟨rfl, rfl⟩))), (due_remMo s a).symm⟩
  · have e : (some (3, 0) : Option (Nat × Nat)) = some (ns.length, xs.length) := hs
    obtain ⟨e1, e2⟩ := Prod.mk.inj (Option.some.inj e)
    obtain ⟨k, a, b, rfl⟩ := len3 e1.symm
    have := len0 e2.symm
    subst this
    exact ⟨.inr (.inr (.inr (.inr (.inl ⟨rfl, rfl⟩)))), (due_setMa s k a b).symm⟩
  · have e : (some (3, 0) : Option (Nat × Nat)) = some (ns.length, xs.length) := hs
    obtain ⟨e1, e2⟩ := Prod.mk.inj (Option.some.inj e)
    obtain ⟨k, a, b, rfl⟩ := len3 e1.symm
    have := len0 e2.symm
    subst this
    exact ⟨.inr (.inr (.inr (.inr (.inr ⟨rfl, rfl⟩)))), (due_setMo s k a b).symm⟩
/-! ### what is asked of a request -/
theorem okShape {sh : Int → Option (Nat × Nat)} {n : Int} {ns : List Int} {xs : List (List Int)} (h : PyFlat.okCall sh ((n :: ns) :: xs)) : sh n = some (ns.length, xs.length) := by
  obtain ⟨p, a, ys, e, hs⟩ := h
  obtain ⟨e1, e2⟩ := List.cons.inj e
  obtain ⟨e3, e4⟩ := List.cons.inj e1
  subst e2; subst e3; subst e4
  exact hs
theorem int32 {z : Int} (h : Sr117Neutral.isInt32 z = true) : -2147483648 ≤ z ∧ z ≤ 2147483647 := by
  unfold Sr117Neutral.isInt32 at h
  rw [Bool.and_eq_true, decide_eq_true_iff, decide_eq_true_iff] at h
  omega
theorem ints32 {l : List Int} (h : Sr117Neutral.areInt32 l = true) : ∀ z ∈ l, -2147483648 ≤ z ∧ z ≤ 2147483647 := fun z m => int32 (List.all_eq_true.mp h z m)
theorem row70 {l : List Int} (h : Sr117Neutral.isListArgument l = true) : l.length ≤ 70 ∧ ∀ z ∈ l, -2147483648 ≤ z ∧ z ≤ 2147483647 := by
  unfold Sr117Neutral.isListArgument at h
  rw [Bool.and_eq_true, decide_eq_true_iff] at h
  exact ⟨h.2, ints32 h.1⟩
theorem ok_of {n : Int} {ns : List Int} {xs : List (List Int)} (hs : PySr117.shape n = some (ns.length, xs.length)) (h : Sr117Neutral.asked1 ((n :: ns) :: xs) = true) : OkCall n ns xs := by
  have no : ∀ x ∈ ([] : List (List Int)), x.length ≤ 70 := fun x m => nomatch m
  have no2 : ∀ x ∈ ([] : List (List Int)), ∀ z ∈ x, -2147483648 ≤ z ∧ z ≤ 2147483647 := fun x m => nomatch m
  have no3 : ∀ z ∈ ([] : List Int), -2147483648 ≤ z ∧ z ≤ 2147483647 := fun x m => nomatch m
  have h01 := shape_lt hs
  have c : n = 0 ∨ n = 1 ∨ n = 2 ∨ n = 3 ∨ n = 4 ∨ n = 5 ∨ n = 6 ∨ n = 7 ∨ n = 8 ∨ n = 9 ∨ n = 10 ∨ n = 11 ∨ n = 12 ∨ n = 13 ∨ n = 14 ∨ n = 15 ∨ n = 16 := by omega
  rcases c with rfl | rfl | rfl | rfl | rfl | rfl | rfl | rfl | rfl | rfl | rfl | rfl | rfl | rfl | rfl | rfl | rfl
  · obtain ⟨e1, e2⟩ := Prod.mk.inj (Option.some.inj (show (some (0, 0) : Option (Nat × Nat)) = some (ns.length, xs.length) from hs))
    have en := len0 e1.symm
    subst en
    have ex := len0 e2.symm
    subst ex
    exact ⟨hs, no, no3, no2⟩
  · obtain ⟨e1, e2⟩ := Prod.mk.inj (Option.some.inj (show (some (2, 0) : Option (Nat × Nat)) = some (ns.length, xs.length) from hs))
    obtain ⟨x, y, rfl⟩ := len2 e1.symm
    have ex := len0 e2.symm
    subst ex
    exact ⟨hs, no, ints32 h, no2⟩
  · obtain ⟨e1, e2⟩ := Prod.mk.inj (Option.some.inj (show (some (2, 0) : Option (Nat × Nat)) = some (ns.length, xs.length) from hs))
    obtain ⟨x, y, rfl⟩ := len2 e1.symm
    have ex := len0 e2.symm
    subst ex
    exact ⟨hs, no, ints32 h, no2⟩
  · obtain ⟨e1, e2⟩ := Prod.mk.inj (Option.some.inj (show (some (1, 0) : Option (Nat × Nat)) = some (ns.length, xs.length) from hs))
    obtain ⟨x, rfl⟩ := len1 e1.symm
    have ex := len0 e2.symm
    subst ex
    exact ⟨hs, no, ints32 h, no2⟩
  · obtain ⟨e1, e2⟩ := Prod.mk.inj (Option.some.inj (show (some (1, 0) : Option (Nat × Nat)) = some (ns.length, xs.length) from hs))
    obtain ⟨x, rfl⟩ := len1 e1.symm
    have ex := len0 e2.symm
    subst ex
    exact ⟨hs, no, ints32 h, no2⟩
  · obtain ⟨e1, e2⟩ := Prod.mk.inj (Option.some.inj (show (some (3, 0) : Option (Nat × Nat)) = some (ns.length, xs.length) from hs))
    obtain ⟨x, y, z, rfl⟩ := len3 e1.symm
    have ex := len0 e2.symm
    subst ex
    exact ⟨hs, no, ints32 h, no2⟩
  · obtain ⟨e1, e2⟩ := Prod.mk.inj (Option.some.inj (show (some (3, 0) : Option (Nat × Nat)) = some (ns.length, xs.length) from hs))
    obtain ⟨x, y, z, rfl⟩ := len3 e1.symm
    have ex := len0 e2.symm
    subst ex
    exact ⟨hs, no, ints32 h, no2⟩
  · obtain ⟨e1, e2⟩ := Prod.mk.inj (Option.some.inj (show (some (2, 0) : Option (Nat × Nat)) = some (ns.length, xs.length) from hs))
    obtain ⟨x, y, rfl⟩ := len2 e1.symm
    have ex := len0 e2.symm
    subst ex
    exact ⟨hs, no, ints32 h, no2⟩
  · obtain ⟨e1, e2⟩ := Prod.mk.inj (Option.some.inj (show (some (0, 0) : Option (Nat × Nat)) = some (ns.length, xs.length) from hs))
    have en := len0 e1.symm
    subst en
    have ex := len0 e2.symm
    subst ex
    exact ⟨hs, no, no3, no2⟩
  · obtain ⟨e1, e2⟩ := Prod.mk.inj (Option.some.inj (show (some (0, 0) : Option (Nat × Nat)) = some (ns.length, xs.length) from hs))
    have en := len0 e1.symm
    subst en
    have ex := len0 e2.symm
    subst ex
    exact ⟨hs, no, no3, no2⟩
  · obtain ⟨e1, e2⟩ := Prod.mk.inj (Option.some.inj (show (some (0, 0) : Option (Nat × Nat)) = some (ns.length, xs.length) from hs))
    have en := len0 e1.symm
    subst en
    have ex := len0 e2.symm
    subst ex
    exact ⟨hs, no, no3, no2⟩
  · obtain ⟨e1, e2⟩ := Prod.mk.inj (Option.some.inj (show (some (0, 0) : Option (Nat × Nat)) = some (ns.length, xs.length) from hs))
    have en := len0 e1.symm
    subst en
    have ex := len0 e2.symm
    subst ex
    exact ⟨hs, no, no3, no2⟩
  · obtain ⟨e1, e2⟩ := Prod.mk.inj (Option.some.inj (show (some (0, 1) : Option (Nat × Nat)) = some (ns.length, xs.length) from hs))
    have en := len0 e1.symm
    subst en
    obtain ⟨r, rfl⟩ := len1 e2.symm
    have q := row70 h
    exact ⟨hs, fun x m => by rw [List.mem_singleton.mp m]; exact q.1, no3, fun x m => by rw [List.mem_singleton.mp m]; exact q.2⟩
  · obtain ⟨e1, e2⟩ := Prod.mk.inj (Option.some.inj (show (some (0, 2) : Option (Nat × Nat)) = some (ns.length, xs.length) from hs))
    have en := len0 e1.symm
    subst en
    obtain ⟨r, s, rfl⟩ := len2 e2.symm
    obtain ⟨h1, h2⟩ := Bool.and_eq_true_iff.mp (show (Sr117Neutral.isListArgument r && Sr117Neutral.isListArgument s) = true from h)
    have q1 := row70 h1
    have q2 := row70 h2
    refine ⟨hs, fun x m => ?_, no3, fun x m => ?_⟩
    · rcases List.mem_cons.mp m with e | m
      · rw [e]; exact q1.1
      · rw [List.mem_singleton.mp m]; exact q2.1
    · rcases List.mem_cons.mp m with e | m
      · rw [e]; exact q1.2
      · rw [List.mem_singleton.mp m]; exact q2.2
  · obtain ⟨e1, e2⟩ := Prod.mk.inj (Option.some.inj (show (some (0, 1) : Option (Nat × Nat)) = some (ns.length, xs.length) from hs))
    have en := len0 e1.symm
    subst en
    obtain ⟨r, rfl⟩ := len1 e2.symm
    have q := row70 h
    exact ⟨hs, fun x m => by rw [List.mem_singleton.mp m]; exact q.1, no3, fun x m => by rw [List.mem_singleton.mp m]; exact q.2⟩
  · obtain ⟨e1, e2⟩ := Prod.mk.inj (Option.some.inj (show (some (1, 0) : Option (Nat × Nat)) = some (ns.length, xs.length) from hs))
    obtain ⟨x, rfl⟩ := len1 e1.symm
    have ex := len0 e2.symm
    subst ex
    exact ⟨hs, no, ints32 h, no2⟩
  · obtain ⟨e1, e2⟩ := Prod.mk.inj (Option.some.inj (show (some (0, 0) : Option (Nat × Nat)) = some (ns.length, xs.length) from hs))
    have en := len0 e1.symm
    subst en
    have ex := len0 e2.symm
    subst ex
    exact ⟨hs, no, no3, no2⟩
/-- a request that may be handed in: it is a row of calls, each of them well formed; what is due is not too long -/
theorem asked_of {l : List Int} (h : PySr117.answers_asked l = true) : ∃ cs, PyFlat.calls PySr117.shape l.length l = some cs ∧ cs.length ≤ 60 ∧
    (∀ c ∈ cs, ∃ n ns xs, c = (n :: ns) :: xs ∧ OkCall n ns xs) ∧ PySr117.answers l = PyFlat.told (PyFlat.played Sr117Neutral.step Sr117Neutral.start cs) ∧ (PySr117.answers l).length ≤ 10000000 := by
  unfold PySr117.answers_asked at h
  cases e : PyFlat.calls PySr117.shape l.length l with
  | none => rw [e] at h; cases h
  | some cs =>
    rw [e] at h
    dsimp only at h
    have em : cs.map PySr117.whole = cs := by
      rw [List.map_congr_left (g := id) fun c _ => whole_id c, List.map_id]
    rw [em] at h
    simp only [Bool.and_eq_true] at h
    obtain ⟨⟨⟨⟨h1, h2⟩, h3⟩, h4⟩, h5⟩ := h
    refine ⟨cs, rfl, of_decide_eq_true h2, fun c hc => ?_, ?_, of_decide_eq_true h5⟩
    · obtain ⟨p, a, xs, ec, hs⟩ := (PyFlat.put_calls _ _ _ e).2 c hc
      refine ⟨p, a, xs, ec, ok_of hs ?_⟩
      unfold Sr117Neutral.asked at h4
      simp only [Bool.and_eq_true] at h4
      have := List.all_eq_true.mp h4.2.2 c hc
      rw [ec] at this
      exact this
    · unfold PySr117.answers PySr117.calls
      rw [e]
      dsimp only
      rw [em]
end Mp
/-! Hw -/
set_option Elab.async false
set_option maxRecDepth 100000
set_option maxHeartbeats 2000000
namespace Mp
open PySem PySem.Spec PyProof.Rows L2
open Sr117 (Shop Rating)
abbrev sPerform : Stmt := top 71
abbrev sAnswers : Stmt := top 72
def isQuery (n : Int) (ns : List Int) (xs : List (List Int)) : Prop := 7 ≤ n ∧ OkCall n ns xs
def spPerf (CI CC : Addr) : Sp := fun vs H Q _ => ∃ (H0 : Hp) (iv : V) (c : Addr) (n : Int) (ns : List Int) (xs : List (List Int)), vs = [iv, .ref c] ∧ Same H0 H ∧ CallAt CC H0 c n ns xs ∧ OkCall n ns xs ∧ 1 ≤ n ∧
  ((iv = .non ∧ ∀ p H', H p = none → H' p = some (.lst [.int (-11)]) → Same H H' → Q (.ref p) H') ∨
   (∃ a lm lo s, iv = .ref a ∧ InstAt CI H a lm lo s ∧ H0 lm = none ∧ H0 lo = none ∧ AfterI CI a lm lo (due s n ns xs) H Q))
section
variable {P : Program} {w : World} {K : PySem.W.Frag} {mg : Str → Option Value} {base : Heap} {f CI CC : Addr} {fd : FuncData}
theorem scPf : FnScope ["instance", "call"] ["instance", "call"] (defScope sPerform) := ⟨rfl, rfl, rfl, by decide +kernel, rfl, by decide +kernel, by decide +kernel⟩
theorem ok_perform (F : Fun K "perform" "perform" sPerform f fd) (TC : TCall K CC) (m1 : Num mg "NO_INSTANCE" (-11)) (m2 : Num mg "FIRST_QUERY" 7)
    (D1 : Def P w K mg base 4 "perform_change" ["instance", "call"] (spOn CI CC isChange change)) {k : Nat} (D2 : Def P w K mg base (4 + k) "perform_query" ["instance", "call"] (spOn CI CC isQuery due)) :
    FnOk P w K mg base CX0 (5 + k) f fd ["instance", "call"] (spPerf CI CC) := by
  have e5 : 5 + k = (4 + k) + 1 := by omega
  rw [e5]
  refine F.ok scPf (fun vs H Q E h => ?_) (fun cdv A outer s H vs Q E hr h => ?_)
  · obtain ⟨H0, iv, c, n, ns, xs, rfl, _⟩ := h
    rfl
  obtain ⟨H0, iv, c, n, ns, xs, rfl, h0, hc, ok, n1, q⟩ := h
  refine ⟨_, pss_cons (ps_if (pt_cmp (pc_isN (pv 0))) (pss_one (ps_ret (pe_lst (pa_cons (pe_num m1) pa_nil)))) pss_nil)
    (pss_cons (ps_if (pt_cmpR op_lt (pe_fld (pv 1) rfl) (pe_num m2) (nomark _)) (pss_one (ps_ret (pe_callD D1 (hr.mono (by omega)) (pa_cons (pv 0) (pa_cons (pv 1) pa_nil))))) pss_nil)
    (pss_one (ps_ret (pe_callD D2 hr (pa_cons (pv 0) (pa_cons (pv 1) pa_nil)))))), ?_⟩
  obtain ⟨dc, ln, lr, as, c1, c2, c3, c4⟩ := hc.ex
  refine ⟨_, rfl, _, rfl, ?_⟩
  rcases q with ⟨rfl, q⟩ | ⟨a, lm, lo, s, rfl, I, fm, fo, q⟩
  · refine if_true_of (by decide) ?_
    refine ⟨(by show 1 ≤ sizeLine; decide), fun p hp => ?_⟩
    exact q p _ hp upd_same (same_new hp _)
  · refine if_false_of (decide_eq_false (by intro z; cases z)) ?_
    refine ⟨_, rfl, c, CC, dc, _, _, rfl, h0 _ _ c1, TC.cl, TC.n1, cF_n _ _ _, _, _, rfl, rfl, _, rfl, ?_⟩
    refine ite_bool (fun z => ?_) (fun z => ?_)
    · have z' := of_decide_eq_true z
      obtain ⟨i1, i2⟩ := change_is (s := s) ok n1 z'
      exact ⟨_, rfl, _, rfl, H0, a, lm, lo, c, s, n, ns, xs, rfl, I, ⟨h0, fm, fo⟩, hc, i1, i2 ▸ q⟩
    · have z' := of_decide_eq_false z
      exact ⟨_, rfl, _, rfl, H0, a, lm, lo, c, s, n, ns, xs, rfl, I, ⟨h0, fm, fo⟩, hc, ⟨by omega, ok⟩, q⟩
/-! ### answers -/
def spAns (K : PySem.W.Frag) : Sp := fun vs H Q _ => ∃ (a : Addr) (ns : List Int), vs = [.ref a] ∧ SqL K H a (ns.map V.int) ∧ ns.length ≤ 8580 ∧ PySr117.answers_asked ns = true ∧
  ∀ (H' : Hp) (p : Addr), H' p = some (.lst ((PySr117.answers ns).map V.int)) → Q (.ref p) H'
abbrev Played (st : Option Shop) (cs : List (List (List Int))) : List Int := PyFlat.told (PyFlat.played Sr117Neutral.step st cs)
theorem played_cons (st : Option Shop) (c : List (List Int)) (cs : List (List (List Int))) : Played st (c :: cs) = (((Sr117Neutral.step st c).2.length : Int) :: (Sr117Neutral.step st c).2) ++ Played (Sr117Neutral.step st c).1 cs := rfl
/-- the shop's slot: nothing there, or a shop apart from what was read -/
def Slot (CI : Addr) (H0 H : Hp) (g : Addr) (v : V) : Option Shop → Prop
  | none => v = .non
  | some s => ∃ a lm lo, v = .ref a ∧ InstAt CI H a lm lo s ∧ H0 lm = none ∧ H0 lo = none ∧ lm ≠ g ∧ lo ≠ g
theorem step_create {st : Option Shop} {ns : List Int} {xs : List (List Int)} (h : OkCall 0 ns xs) : Sr117Neutral.step st ((0 :: ns) :: xs) = (some ⟨[], []⟩, [0]) := by
  obtain ⟨e1, e2⟩ := Prod.mk.inj (Option.some.inj (show (some (0, 0) : Option (Nat × Nat)) = some (ns.length, xs.length) from h.sh))
  have en := len0 e1.symm
  have ex := len0 e2.symm
  subst en; subst ex
  rfl
theorem parse_ok {n : Int} {ns : List Int} {xs : List (List Int)} (h : OkCall n ns xs) (h1 : 1 ≤ n) : ∃ call, Sr117Neutral.parseCall ((n :: ns) :: xs) = some call ∧ call ≠ .create := by
  have hs := h.sh
  have h01 := shape_lt hs
  have c : n = 1 ∨ n = 2 ∨ n = 3 ∨ n = 4 ∨ n = 5 ∨ n = 6 ∨ n = 7 ∨ n = 8 ∨ n = 9 ∨ n = 10 ∨ n = 11 ∨ n = 12 ∨ n = 13 ∨ n = 14 ∨ n = 15 ∨ n = 16 := by omega
  rcases c with rfl | rfl | rfl | rfl | rfl | rfl | rfl | rfl | rfl | rfl | rfl | rfl | rfl | rfl | rfl | rfl
  · obtain ⟨e1, e2⟩ := Prod.mk.inj (Option.some.inj (show (some (2, 0) : Option (Nat × Nat)) = some (ns.length, xs.length) from hs))
    obtain ⟨x, y, rfl⟩ := len2 e1.symm
    have ex := len0 e2.symm
    subst ex
    exact ⟨_, rfl, by intro z; cases z⟩
  · obtain ⟨e1, e2⟩ := Prod.mk.inj (Option.some.inj (show (some (2, 0) : Option (Nat × Nat)) = some (ns.length, xs.length) from hs))
    obtain ⟨x, y, rfl⟩ := len2 e1.symm
    have ex := len0 e2.symm
    subst ex
    exact ⟨_, rfl, by intro z; cases z⟩
  · obtain ⟨e1, e2⟩ := Prod.mk.inj (Option.some.inj (show (some (1, 0) : Option (Nat × Nat)) = some (ns.length, xs.length) from hs))
    obtain ⟨x, rfl⟩ := len1 e1.symm
    have ex := len0 e2.symm
    subst ex
    exact ⟨_, rfl, by intro z; cases z⟩
  · obtain ⟨e1, e2⟩ := Prod.mk.inj (Option.some.inj (show (some (1, 0) : Option (Nat × Nat)) = some (ns.length, xs.length) from hs))
    obtain ⟨x, rfl⟩ := len1 e1.symm
    have ex := len0 e2.symm
    subst ex
    exact ⟨_, rfl, by intro z; cases z⟩
  · obtain ⟨e1, e2⟩ := Prod.mk.inj (Option.some.inj (show (some (3, 0) : Option (Nat × Nat)) = some (ns.length, xs.length) from hs))
    obtain ⟨x, y, z, rfl⟩ := len3 e1.symm
    have ex := len0 e2.symm
    subst ex
    exact ⟨_, rfl, by intro z; cases z⟩
  · obtain ⟨e1, e2⟩ := Prod.mk.inj (Option.some.inj (show (some (3, 0) : Option (Nat × Nat)) = some (ns.length, xs.length) from hs))
    obtain ⟨x, y, z, rfl⟩ := len3 e1.symm
    have ex := len0 e2.symm
    subst ex
    exact ⟨_, rfl, by intro z; cases z⟩
  · obtain ⟨e1, e2⟩ := Prod.mk.inj (Option.some.inj (show (some (2, 0) : Option (Nat × Nat)) = some (ns.length, xs.length) from hs))
    obtain ⟨x, y, rfl⟩ := len2 e1.symm
    have ex := len0 e2.symm
    subst ex
    exact ⟨_, rfl, by intro z; cases z⟩
  · obtain ⟨e1, e2⟩ := Prod.mk.inj (Option.some.inj (show (some (0, 0) : Option (Nat × Nat)) = some (ns.length, xs.length) from hs))
    have en := len0 e1.symm
    subst en
    have ex := len0 e2.symm
    subst ex
    exact ⟨_, rfl, by intro z; cases z⟩
  · obtain ⟨e1, e2⟩ := Prod.mk.inj (Option.some.inj (show (some (0, 0) : Option (Nat × Nat)) = some (ns.length, xs.length) from hs))
    have en := len0 e1.symm
    subst en
    have ex := len0 e2.symm
    subst ex
    exact ⟨_, rfl, by intro z; cases z⟩
  · obtain ⟨e1, e2⟩ := Prod.mk.inj (Option.some.inj (show (some (0, 0) : Option (Nat × Nat)) = some (ns.length, xs.length) from hs))
    have en := len0 e1.symm
    subst en
    have ex := len0 e2.symm
    subst ex
    exact ⟨_, rfl, by intro z; cases z⟩
  · obtain ⟨e1, e2⟩ := Prod.mk.inj (Option.some.inj (show (some (0, 0) : Option (Nat × Nat)) = some (ns.length, xs.length) from hs))
    have en := len0 e1.symm
    subst en
    have ex := len0 e2.symm
    subst ex
    exact ⟨_, rfl, by intro z; cases z⟩
  · obtain ⟨e1, e2⟩ := Prod.mk.inj (Option.some.inj (show (some (0, 1) : Option (Nat × Nat)) = some (ns.length, xs.length) from hs))
    have en := len0 e1.symm
    subst en
    obtain ⟨r, rfl⟩ := len1 e2.symm
    exact ⟨_, rfl, by intro z; cases z⟩
  · obtain ⟨e1, e2⟩ := Prod.mk.inj (Option.some.inj (show (some (0, 2) : Option (Nat × Nat)) = some (ns.length, xs.length) from hs))
    have en := len0 e1.symm
    subst en
    obtain ⟨r, s, rfl⟩ := len2 e2.symm
    exact ⟨_, rfl, by intro z; cases z⟩
  · obtain ⟨e1, e2⟩ := Prod.mk.inj (Option.some.inj (show (some (0, 1) : Option (Nat × Nat)) = some (ns.length, xs.length) from hs))
    have en := len0 e1.symm
    subst en
    obtain ⟨r, rfl⟩ := len1 e2.symm
    exact ⟨_, rfl, by intro z; cases z⟩
  · obtain ⟨e1, e2⟩ := Prod.mk.inj (Option.some.inj (show (some (1, 0) : Option (Nat × Nat)) = some (ns.length, xs.length) from hs))
    obtain ⟨x, rfl⟩ := len1 e1.symm
    have ex := len0 e2.symm
    subst ex
    exact ⟨_, rfl, by intro z; cases z⟩
  · obtain ⟨e1, e2⟩ := Prod.mk.inj (Option.some.inj (show (some (0, 0) : Option (Nat × Nat)) = some (ns.length, xs.length) from hs))
    have en := len0 e1.symm
    subst en
    have ex := len0 e2.symm
    subst ex
    exact ⟨_, rfl, by intro z; cases z⟩
theorem step_none {n : Int} {ns : List Int} {xs : List (List Int)} (h : OkCall n ns xs) (h1 : 1 ≤ n) : Sr117Neutral.step none ((n :: ns) :: xs) = (none, [-11]) := by
  obtain ⟨call, e, hc⟩ := parse_ok h h1
  unfold Sr117Neutral.step
  rw [e]
  dsimp only
  have e2 : Sr117.step none call = (none, .ofCode SrCommon.notCreated) := by
    unfold Sr117.step
    cases call <;> first | rfl | exact absurd rfl hc
  rw [e2]
  rfl
theorem step_some {s : Shop} {n : Int} {ns : List Int} {xs : List (List Int)} (h : OkCall n ns xs) (h1 : 1 ≤ n) : Sr117Neutral.step (some s) ((n :: ns) :: xs) = (some (due s n ns xs).1, (due s n ns xs).2) := by
  obtain ⟨call, e, hc⟩ := parse_ok h h1
  rw [due_of e hc]
  unfold Sr117Neutral.step
  rw [e]
  dsimp only
  have e2 : Sr117.step (some s) call = match Sr117.perform s call with
      | (some changed, result) => (some changed, result)
      | (none, result) => (some s, result) := by
    unfold Sr117.step
    cases call <;> first | rfl | exact absurd rfl hc
  rw [e2]
  cases e3 : Sr117.perform s call with
  | mk a b => cases a <;> rfl
theorem inst_but {C : Addr} {H H' : Hp} {a lm lo g : Addr} {s : Shop} (I : InstAt C H a lm lo s) (b : But [g] H H') {xs : List V} (hg : H g = some (.lst xs)) (n1 : lm ≠ g) (n2 : lo ≠ g) : InstAt C H' a lm lo s := by
  obtain ⟨dx, ho⟩ := I.ob
  have no : ∀ z ∈ [g], ∀ ys, H z ≠ some (.tup ys) := fun z m ys e => by
    rw [List.mem_singleton.mp m, hg] at e
    cases e
  exact ⟨⟨dx, b _ _ ho (not1 (ne_of ho hg (by intro z; cases z)))⟩, I.ne, I.ma.keep b (not1 n1) no, I.mo.keep b (not1 n2) no, I.m5, I.o5⟩
theorem slot_but {CI : Addr} {H0 H H' : Hp} {g : Addr} {v : V} {st : Option Shop} (h : Slot CI H0 H g v st) (b : But [g] H H') {xs : List V} (hg : H g = some (.lst xs)) : Slot CI H0 H' g v st := by
  cases st with
  | none => exact h
  | some s =>
    obtain ⟨a, lm, lo, e, I, fm, fo, n1, n2⟩ := h
    exact ⟨a, lm, lo, e, inst_but I b hg n1 n2, fm, fo, n1, n2⟩
theorem ten7 {n : Nat} (h : n ≤ 10000000) : n < sizeLine := Nat.lt_of_le_of_lt h (by decide)
theorem scAn : FnScope ["calls", "instance", "given", "call", "answer"] ["calls"] (defScope sAnswers) := ⟨rfl, rfl, rfl, by decide +kernel, rfl, by decide +kernel, by decide +kernel⟩
theorem ok_answers {fI : Addr} {gI : FuncData} (F : Fun K "answers" "answers" sAnswers f fd) (TI : TInst K CI) (TC : TCall K CC) (mlen : mg "len" = none) (m1 : Num mg "CREATE" 0)
    (M : Mk K CI fI) (mI : mg "Instance" = some (.ref CI)) (GI : FnOk P w K mg base CX0 1 fI gI ["self"] (spInstInit CI)) (bI : Binds K gI ["self"] [])
    (D1 : Def P w K mg base 4 "read_calls" ["calls"] (spReadAll K CC)) {k : Nat} (D2 : Def P w K mg base (5 + k) "perform" ["instance", "call"] (spPerf CI CC)) :
    FnOk P w K mg base CX0 (6 + k) f fd ["calls"] (spAns K) := by
  have e6 : 6 + k = (5 + k) + 1 := by omega
  rw [e6]
  refine F.ok scAn (fun vs H Q E h => ?_) (fun cdv A outer s H vs Q E hr h => ?_)
  · obtain ⟨a, ns, rfl, _⟩ := h
    rfl
  obtain ⟨la, l, rfl, hS, h85, hask, q⟩ := h
  obtain ⟨cs, hcs, h60, hok, ean, hlen⟩ := asked_of hask
  rw [ean] at q hlen
  refine ⟨_, pss_cons (ps_set (i := 1) scAn.nd rfl (Or.inl rfl) pe_non)
    (pss_cons (ps_set (i := 2) scAn.nd rfl (Or.inl rfl) (pe_lst pa_nil))
    (pss_cons (ps_for PassesOwn.never rfl (pi_list (pe_callD D1 (hr.mono (by omega)) (pa_cons (pv 0) pa_nil))) (pg_name (i := 3) scAn.nd rfl (Or.inl rfl))
      (pss_cons (ps_if (pt_cmpR op_eq (pe_fld (pv 3) rfl) (pe_num m1) (nomark _))
        (pss_cons (ps_set (i := 1) scAn.nd rfl (Or.inl rfl) (pe_make0 M GI (hr.mono (by omega)) rfl mI bI .nil pass0)) (pss_one (ps_set (i := 4) scAn.nd rfl (Or.inl rfl) (pe_lst (pa_cons pe_int pa_nil)))))
        (pss_one (ps_set (i := 4) scAn.nd rfl (Or.inl rfl) (pe_callD D2 hr (pa_cons (pv 1) (pa_cons (pv 3) pa_nil))))))
      (pss_cons (ps_expr (pe_bm PySem.F.plainAttrs_list PySem.F.slot_list_append PySem.F.type_list_append mt_append (pv 2) (pa_cons (pe_callB call_len_seq rfl mlen PySem.boot_len (pa_cons (pv 4) pa_nil)) pa_nil)))
      (pss_one (ps_expr (pe_bm PySem.F.plainAttrs_list PySem.F.slot_list_extend PySem.F.type_list_extend mt_extend (pv 2) (pa_cons (pv 4) pa_nil)))))))
    (pss_one (ps_ret (pv 2))))), ?_⟩
  -- given = []
  refine ⟨(by show 0 ≤ sizeLine; decide), fun g hg => ?_⟩
  have hG : (upd H g (.lst [])) g = some (.lst []) := upd_same
  have sG : Same H (upd H g (.lst [])) := same_new hg _
  generalize upd H g (.lst []) = H1 at *
  refine ⟨_, rfl, la, l, cs, _, rfl, sG.seq hS, h85, hcs, h60, fun H2 L as hL0 hL hC s2 => ?_⟩
  have hal := hC.len
  have hCA : CallsAt CC (New H1 H2) as cs := hC.same Off.le
  have hLN : New H1 H2 L = some (.lst (as.map V.ref)) := New.of hL0 hL
  have hgN : New H1 H2 g = none := by
    unfold New
    rw [hG]; rfl
  have hN : Same (New H1 H2) H2 := New.le
  have hg2 : H2 g = some (.lst []) := s2 _ _ hG
  clear hC hL0 hL
  generalize New H1 H2 = H0 at *
  refine ⟨L, rfl, ⟨_, SqL.of (hN _ _ hLN)⟩, for_list (K := K) (a := L) (xs := as.map V.ref) (fun i σ H' => ∃ (st : Option Shop) (iv : V) (out : List Int) (v3 v4 : Option V), σ = [some (.ref la), some iv, some (.ref g), v3, v4] ∧
      Slot CI H0 H' g iv st ∧ Same H0 H' ∧ H' g = some (.lst (out.map V.int)) ∧ Played Sr117Neutral.start cs = out ++ Played st (cs.drop i))
    ⟨none, .non, [], none, none, rfl, rfl, hN, hg2, rfl⟩ (fun i σ H' _ ⟨_, _, _, _, _, _, _, z, _⟩ => SqL.of (z _ _ hLN)) ?_ ?_⟩
  · rintro i x σ H' hi ⟨st, iv, out, v3, v4, rfl, sl, s0, hg', hpl⟩
    rw [List.getElem?_map] at hi
    obtain ⟨c, hc, rfl⟩ := Option.map_eq_some_iff.mp hi
    obtain ⟨n, ns, xs, hci, hcall⟩ := hCA.get hc
    have hlt : i < cs.length := (List.getElem?_eq_some_iff.mp hci).1
    have hdrop : cs.drop i = ((n :: ns) :: xs) :: cs.drop (i + 1) := by
      rw [List.drop_eq_getElem_cons hlt]
      congr 1
      exact Option.some.inj ((List.getElem?_eq_getElem hlt).symm.trans hci)
    obtain ⟨n', ns', xs', e', ok⟩ := hok _ (List.mem_of_getElem? hci)
    obtain ⟨e1, e2⟩ := List.cons.inj e'
    obtain ⟨e3, e4⟩ := List.cons.inj e1
    subst e2; subst e3; subst e4
    rw [hdrop, played_cons] at hpl
    obtain ⟨dc, ln, lr, bs, c1, c2, c3, c4⟩ := hcall.ex
    generalize hst : Sr117Neutral.step st ((n :: ns) :: xs) = res at hpl
    obtain ⟨st', ans⟩ := res
    dsimp only at hpl
    have hb : out.length + (ans.length + 1) ≤ 10000000 := by
      have := congrArg List.length hpl
      rw [List.length_append, List.length_append, List.length_cons] at this
      have e : (Played Sr117.start cs).length ≤ 10000000 := hlen
      have e2 : (Played Sr117Neutral.start cs).length = (Played Sr117.start cs).length := rfl
      omega
    refine ⟨_, rfl, c, CC, dc, _, _, rfl, s0 _ _ c1, TC.cl, TC.n1, cF_n _ _ _, rfl, _, rfl, ?_⟩
    refine ite_bool (fun z => ?_) (fun z => ?_)
    · -- create
      have z' : n = 0 := by
        have := of_decide_eq_true z
        cases this
        rfl
      subst z'
      rw [step_create ok] at hst
      obtain ⟨e1, e2⟩ := Prod.mk.inj hst
      subst e1; subst e2
      intro x dx nx ndx nex
      refine ⟨x, dx, rfl, upd_same, fun lm lo H'' hm ho I b => ⟨rfl, ?_⟩⟩
      have sm : Same H' H'' := Same.made (C := CI) nx ndx fun z o e nz => b z o e (not1 nz)
      have back : ∀ z, (upd (upd H' dx (.own x)) x (.ins CI dx [])) z = none → H' z = none := fun z e => by
        have z1 : z ≠ x := fun m => by rw [m, upd_same] at e; cases e
        have z2 : z ≠ dx := fun m => by rw [m, upd_ne nex, upd_same] at e; cases e
        rw [upd_ne z1, upd_ne z2] at e
        exact e
      refine ⟨(by show 1 ≤ sizeLine; decide), fun p hp => ?_⟩
      have sp := same_new hp (.lst [.int 0])
      have hg'' : (upd H'' p (.lst [.int 0])) g = some (.lst (out.map V.int)) := sp _ _ (sm _ _ hg')
      have npg : p ≠ g := fun m => by rw [m, sm _ _ hg'] at hp; cases hp
      have hp' : (upd H'' p (.lst [.int 0])) p = some (.lst (([0] : List Int).map V.int)) := upd_same
      have k1 : lm ≠ g := fun m => by rw [m] at hm; rw [back _ hm] at hg'; cases hg'
      have k2 : lo ≠ g := fun m => by rw [m] at ho; rw [back _ ho] at hg'; cases hg'
      have sl' : Slot CI H0 (upd H'' p (.lst [.int 0])) g (.ref x) (some ⟨[], []⟩) := ⟨x, lm, lo, rfl, I.same sp, s0.free (back _ hm), s0.free (back _ ho), k1, k2⟩
      have s0' : Same H0 (upd H'' p (.lst [.int 0])) := (s0.trans sm).trans sp
      generalize hst' : (some ⟨[], []⟩ : Option Shop) = st' at *
      generalize hans : ([0] : List Int) = ans at *
      generalize upd H'' p (.lst [.int 0]) = HT at *
      have T1 : But [g] HT (upd (upd HT g (.lst (out.map V.int ++ [.int (((ans.map V.int).length : Nat) : Int)]))) g (.lst (out.map V.int ++ [.int (((ans.map V.int).length : Nat) : Int)] ++ ans.map V.int))) := (But.upd _).trans (But.upd _)
      have T2 : (upd HT g (.lst (out.map V.int ++ [.int (((ans.map V.int).length : Nat) : Int)]))) p = some (.lst (ans.map V.int)) := by rw [upd_ne npg]; exact hp'
      refine ⟨_, rfl, .inl ⟨rfl, _, SqL.of hg''⟩, _, rfl, p, _, rfl, .inl (SqL.of hp'), g, _, _, rfl, rfl, hg'', ten7 (by rw [List.length_map]; omega), ?_⟩
      refine ⟨_, rfl, .inl ⟨rfl, _, SqL.of upd_same⟩, _, rfl, g, p, _, _, rfl, rfl, upd_same, T2, Nat.le_of_lt (ten7 (by rw [List.length_append, List.length_map, List.length_map, List.length_singleton]; omega)), ?_⟩
      refine ⟨st', _, out ++ ((ans.length : Int) :: ans), _, _, rfl, slot_but sl' T1 hg'', fun z o e => T1 z o (s0' z o e) (fun m => by rw [List.mem_singleton.mp m, hgN] at e; cases e), ?_, by rw [List.append_assoc]; exact hpl⟩
      rw [upd_same, List.map_append, List.map_cons, List.append_assoc, List.length_map]
      rfl
    · have z' : n ≠ 0 := fun m => by
        rw [m] at z
        exact absurd (of_decide_eq_false z) (fun q => q rfl)
      have n1 : 1 ≤ n := by
        have := (shape_lt ok.sh).1
        omega
      refine ⟨_, rfl, _, rfl, H0, iv, c, n, ns, xs, rfl, s0, hcall, ok, n1, ?_⟩
      cases st with
      | none =>
        rw [step_none ok n1] at hst
        obtain ⟨e1, e2⟩ := Prod.mk.inj hst
        subst e1
        refine .inl ⟨sl, fun p HT hp hp' sm => ?_⟩
        have hp' : HT p = some (.lst (ans.map V.int)) := by rw [hp', ← e2]; rfl
        have hg'' := sm _ _ hg'
        have npg : p ≠ g := fun m => by rw [m, hg'] at hp; cases hp
        have sl' : Slot CI H0 HT g iv none := sl
        have s0' := s0.trans sm
        generalize hst' : (none : Option Shop) = st' at *
        have T1 : But [g] HT (upd (upd HT g (.lst (out.map V.int ++ [.int (((ans.map V.int).length : Nat) : Int)]))) g (.lst (out.map V.int ++ [.int (((ans.map V.int).length : Nat) : Int)] ++ ans.map V.int))) := (But.upd _).trans (But.upd _)
        have T2 : (upd HT g (.lst (out.map V.int ++ [.int (((ans.map V.int).length : Nat) : Int)]))) p = some (.lst (ans.map V.int)) := by rw [upd_ne npg]; exact hp'
        refine ⟨_, rfl, .inl ⟨rfl, _, SqL.of hg''⟩, _, rfl, p, _, rfl, .inl (SqL.of hp'), g, _, _, rfl, rfl, hg'', ten7 (by rw [List.length_map]; omega), ?_⟩
        refine ⟨_, rfl, .inl ⟨rfl, _, SqL.of upd_same⟩, _, rfl, g, p, _, _, rfl, rfl, upd_same, T2, Nat.le_of_lt (ten7 (by rw [List.length_append, List.length_map, List.length_map, List.length_singleton]; omega)), ?_⟩
        refine ⟨st', _, out ++ ((ans.length : Int) :: ans), _, _, rfl, slot_but sl' T1 hg'', fun z o e => T1 z o (s0' z o e) (fun m => by rw [List.mem_singleton.mp m, hgN] at e; cases e), ?_, by rw [List.append_assoc]; exact hpl⟩
        rw [upd_same, List.map_append, List.map_cons, List.append_assoc, List.length_map]
        rfl
      | some s =>
        obtain ⟨a, lm, lo, rfl, I, fm, fo, k1, k2⟩ := sl
        rw [step_some ok n1] at hst
        obtain ⟨e1, e2⟩ := Prod.mk.inj hst
        refine .inr ⟨a, lm, lo, s, rfl, I, fm, fo, fun p HT hp hp' I' b => ?_⟩
        have nl : ∀ z o, H0 z = some o → z ∉ [lm, lo] := fun z o e m => by
          rcases List.mem_cons.mp m with m | m
          · rw [m, fm] at e; cases e
          · rw [List.mem_singleton.mp m, fo] at e; cases e
        have ng : g ∉ [lm, lo] := fun m => by
          rcases List.mem_cons.mp m with m | m
          · exact k1 m.symm
          · exact k2 (List.mem_singleton.mp m).symm
        have hp' : HT p = some (.lst (ans.map V.int)) := by rw [hp', ← e2]
        have hg'' := b _ _ hg' ng
        have npg : p ≠ g := fun m => by rw [m, hg'] at hp; cases hp
        have sl' : Slot CI H0 HT g (.ref a) st' := by rw [← e1]; exact ⟨a, lm, lo, rfl, I', fm, fo, k1, k2⟩
        have s0' : Same H0 HT := fun z o e => b z o (s0 z o e) (nl z o e)
        have T1 : But [g] HT (upd (upd HT g (.lst (out.map V.int ++ [.int (((ans.map V.int).length : Nat) : Int)]))) g (.lst (out.map V.int ++ [.int (((ans.map V.int).length : Nat) : Int)] ++ ans.map V.int))) := (But.upd _).trans (But.upd _)
        have T2 : (upd HT g (.lst (out.map V.int ++ [.int (((ans.map V.int).length : Nat) : Int)]))) p = some (.lst (ans.map V.int)) := by rw [upd_ne npg]; exact hp'
        refine ⟨_, rfl, .inl ⟨rfl, _, SqL.of hg''⟩, _, rfl, p, _, rfl, .inl (SqL.of hp'), g, _, _, rfl, rfl, hg'', ten7 (by rw [List.length_map]; omega), ?_⟩
        refine ⟨_, rfl, .inl ⟨rfl, _, SqL.of upd_same⟩, _, rfl, g, p, _, _, rfl, rfl, upd_same, T2, Nat.le_of_lt (ten7 (by rw [List.length_append, List.length_map, List.length_map, List.length_singleton]; omega)), ?_⟩
        refine ⟨st', _, out ++ ((ans.length : Int) :: ans), _, _, rfl, slot_but sl' T1 hg'', fun z o e => T1 z o (s0' z o e) (fun m => by rw [List.mem_singleton.mp m, hgN] at e; cases e), ?_, by rw [List.append_assoc]; exact hpl⟩
        rw [upd_same, List.map_append, List.map_cons, List.append_assoc, List.length_map]
        rfl
  · rintro σ H' ⟨st, iv, out, v3, v4, rfl, sl, s0, hg', hpl⟩
    rw [List.length_map, hal, List.drop_length] at hpl
    refine ⟨_, rfl, ?_⟩
    refine q H' g ?_
    have e0 : Played st [] = [] := rfl
    rw [e0, List.append_nil] at hpl
    rw [show PyFlat.told (PyFlat.played Sr117Neutral.step Sr117Neutral.start cs) = out from hpl]
    exact hg'
end
end Mp
/-! Hm -/
set_option Elab.async false
set_option maxRecDepth 100000
set_option maxHeartbeats 2000000
namespace Mp
open PySem PySem.Spec PyProof.Rows L2
open Sr117 (Shop Rating)
abbrev sFits : Stmt := top 24
abbrev sFitM : Stmt := top 25
/-- the mould fits the machine -/
def fit1 (r q : Rating) : Bool := decide (r.clampForce ≤ q.clampForce) && decide (r.platenSize ≤ q.platenSize)
def spFits : Sp := fun vs H Q _ => ∃ (t u : Addr) (r q : Rating), vs = [.ref t, .ref u] ∧ RatT H t r ∧ RatT H u q ∧ Q (.bl (fit1 r q)) H
/-- the places of the machines that a mould fits, from the j-th on -/
def fitFrom (r : Rating) : Nat → List Rating → List Nat
  | _, [] => []
  | j, q :: qs => if fit1 r q = true then j :: fitFrom r (j + 1) qs else fitFrom r (j + 1) qs
def natV (l : List Nat) : List V := l.map fun (n : Nat) => V.int (n : Int)
def spFitM : Sp := fun vs H Q _ => ∃ (t lm : Addr) (r : Rating) (ms : List Rating), vs = [.ref t, .ref lm] ∧ RatT H t r ∧ RatL H lm ms ∧ ms.length ≤ 5 ∧
  ∀ H' p, H p = none → H' p = some (.lst (natV (fitFrom r 0 ms))) → Same H H' → Q (.ref p) H'
theorem fitFrom_app (r : Rating) : ∀ (l m : List Rating) (j : Nat), fitFrom r j (l ++ m) = fitFrom r j l ++ fitFrom r (j + l.length) m
  | [], m, j => rfl
  | q :: l, m, j => by
    rw [List.cons_append, fitFrom, fitFrom, fitFrom_app r l m (j + 1), List.length_cons, show j + 1 + l.length = j + (l.length + 1) by omega]
    by_cases c : fit1 r q = true
    · rw [if_pos c, if_pos c]; rfl
    · rw [if_neg c, if_neg c]
theorem fitFrom_len (r : Rating) : ∀ (l : List Rating) (j : Nat), (fitFrom r j l).length ≤ l.length
  | [], _ => Nat.le_refl _
  | q :: l, j => by
    have := fitFrom_len r l (j + 1)
    rw [fitFrom, List.length_cons]
    split
    · rw [List.length_cons]; omega
    · omega
theorem take_more {α : Type} : ∀ {l : List α} {i : Nat} {x : α}, l[i]? = some x → l.take (i + 1) = l.take i ++ [x]
  | [], i, x, h => by simp at h
  | a :: l, 0, x, h => by
    have e : a = x := Option.some.inj h
    subst e
    rfl
  | a :: l, i + 1, x, h => by
    have ih := take_more (l := l) (i := i) (x := x) h
    show a :: l.take (i + 1) = a :: l.take i ++ [x]
    rw [ih]
    rfl
section
variable {P : Program} {w : World} {K : PySem.W.Frag} {mg : Str → Option Value} {base : Heap} {f C : Addr} {fd : FuncData}
theorem scFt : FnScope ["mould", "machine"] ["mould", "machine"] (defScope sFits) := ⟨rfl, rfl, rfl, by decide +kernel, rfl, by decide +kernel, by decide +kernel⟩
theorem ok_fits (F : Fun K "fits" "fits" sFits f fd) : FnOk P w K mg base CX0 1 f fd ["mould", "machine"] spFits := by
  refine F.ok scFt (fun vs H Q E h => ?_) (fun cdv A outer s H vs Q E hr h => ?_)
  · obtain ⟨t, u, r, q, rfl, _⟩ := h
    rfl
  obtain ⟨t, u, r, q, rfl, ht, hu, k⟩ := h
  refine ⟨_, pss_one (ps_ret (pe_and (pe_cmpR op_le (pe_ix ix_tup (pv 0) pe_int (fun _ _ => rfl)) (pe_ix ix_tup (pv 1) pe_int (fun _ _ => rfl)) (nomark _)) (pe_one (pe_cmpR op_le (pe_ix ix_tup (pv 0) pe_int (fun _ _ => rfl)) (pe_ix ix_tup (pv 1) pe_int (fun _ _ => rfl)) (nomark _))))), ?_⟩
  have e1 : decide ((r.clampForce : Int) ≤ (q.clampForce : Int)) = decide (r.clampForce ≤ q.clampForce) := decide_eq_decide.mpr (by omega)
  have e2 : decide ((r.platenSize : Int) ≤ (q.platenSize : Int)) = decide (r.platenSize ≤ q.platenSize) := decide_eq_decide.mpr (by omega)
  unfold fit1 at k
  rw [← e1, ← e2] at k
  refine ⟨_, rfl, t, _, _, _, rfl, rfl, SqT.of ht, rfl, _, rfl, u, _, _, _, rfl, rfl, SqT.of hu, rfl, _, _, rfl, rfl, _, rfl, ?_⟩
  refine ite_bool (fun c => ?_) (fun c => ?_)
  · rw [c] at k
    exact ⟨_, rfl, t, _, _, _, rfl, rfl, SqT.of ht, rfl, _, rfl, u, _, _, _, rfl, rfl, SqT.of hu, rfl, _, _, rfl, rfl, k⟩
  · rw [c] at k
    exact k
theorem scFM : FnScope ["mould", "machines", "j", "machine"] ["mould", "machines"] (defScope sFitM) := ⟨rfl, rfl, rfl, by decide +kernel, rfl, by decide +kernel, by decide +kernel⟩
theorem ok_fitM (F : Fun K "fitting_machines" "fitting_machines" sFitM f fd) (me : mg "enumerate" = none) (D1 : Def P w K mg base 1 "fits" ["mould", "machine"] spFits) : FnOk P w K mg base CX0 2 f fd ["mould", "machines"] spFitM := by
  refine F.ok scFM (fun vs H Q E h => ?_) (fun cdv A outer s H vs Q E hr h => ?_)
  · obtain ⟨t, lm, r, ms, rfl, _⟩ := h
    rfl
  obtain ⟨t, lm, r, ms, rfl, ht, hl, h5, k⟩ := h
  obtain ⟨ts, hl, hts⟩ := hl
  refine ⟨_, pss_one (ps_ret (pe_lc (own := [("j", 2), ("machine", 3)]) (g := gTup K 2 (gCons (gName 2) (gCons (gName 3) gNil))) (tt := tB (tCall spFits [] E0 (tCons (tVar 0) (tCons (tVar 3) tNil)))) (te := tVar 2) rfl scFM.nd (pi_enum (by rfl) me (pa_cons (pv 1) pa_nil)) (blkOk_by (own := [("j", 2), ("machine", 3)]) (N := ["mould", "machines", "j", "machine"]) (sc := defScope sFitM) (by decide +kernel))
    (fun _ _ _ _ _ => pg_tup rfl (pgs_cons (pg_name (i := 2) scFM.nd rfl (Or.inl rfl)) (pgs_cons (pg_name (i := 3) scFM.nd rfl (Or.inl rfl)) pgs_nil)))
    (fun _ _ _ _ _ => pts_one (pt_val (pe_callD D1 hr (pa_cons (pv 0) (pa_cons (pv 3) pa_nil)))))
    (fun _ _ _ _ _ => pv 2))), ?_⟩
  have hlen := hts.len
  have hll : (ts.map V.ref).length = ms.length := by rw [List.length_map, hlen]
  refine ⟨_, rfl, lm, _, rfl, SqL.of hl, fun D hD => ?_⟩
  refine lc_it (walk_enum (K := K) (a := lm) (xs := ts.map V.ref)) (fun i H' => Same H H' ∧ H' D = some (.lst (natV (fitFrom r 0 (ms.take i))))) ⟨same_new hD _, upd_same⟩ (fun i H' _ z => SqL.of (z.1 _ _ hl)) ?_ ?_
  · rintro i x H' H'' hi ⟨s1, d1⟩ ⟨T, y1, y2, rfl, hT, rfl, e1, e2⟩
    cases e1
    have e2 : (ts.map V.ref)[i]? = some y2 := e2
    rw [List.getElem?_map] at e2
    obtain ⟨u, hu, rfl⟩ := Option.map_eq_some_iff.mp e2
    have hi' : i < ms.length := by rw [hll] at hi; exact hi
    obtain ⟨q, hq⟩ := get_some hi'
    obtain ⟨u', hu', rt⟩ := hts.get hq
    rw [hu] at hu'
    cases hu'
    have s2 := s1.trans (same_new hT (.tup [.int (i : Nat), .ref u]))
    have DT : D ≠ T := ne_of_none d1 hT
    refine ⟨T, _, rfl, seqT_new, rfl, _, _, rfl, _, _, rfl, rfl, rfl, ?_⟩
    refine ⟨_, rfl, _, rfl, t, u, r, q, rfl, s2 _ _ ht, s2 _ _ rt, _, rfl, ?_⟩
    rw [take_more hq, fitFrom_app]
    have e0 : fitFrom r (0 + (ms.take i).length) [q] = if fit1 r q = true then [i] else [] := by
      rw [List.length_take, Nat.min_eq_left (by omega), Nat.zero_add]
      rfl
    rw [e0]
    refine ite_bool (fun c => ?_) (fun c => ?_)
    · refine ⟨_, rfl, _, by rw [upd_ne DT]; exact d1, small1000 (by have := fitFrom_len r (ms.take i) 0; unfold natV; rw [List.length_map]; rw [List.length_take] at this; omega), ?_⟩
      have D0 : H D = none := hD
      refine ⟨fun b o e => by rw [upd_ne (ne_of_none e D0)]; exact s2 b o e, ?_⟩
      rw [upd_same, if_pos c]
      unfold natV
      rw [List.map_append]
      rfl
    · rw [c]
      refine ⟨s2, ?_⟩
      rw [upd_ne DT, if_neg (by simp), List.append_nil]
      exact d1
  · rintro H' ⟨s1, d1⟩
    rw [hll, List.take_length] at d1
    exact k H' D hD d1 s1
end
end Mp
/-! Hn -/
set_option Elab.async false
set_option maxRecDepth 100000
set_option maxHeartbeats 4000000
namespace Mp
open PySem PySem.Spec PyProof.Rows L2
open Sr117 (Shop Rating)
abbrev sMatInit : Stmt := inClass (top 26) 0
abbrev sPlace : Stmt := inClass (top 26) 1
/-! ### a matching as it lies in the heap -/
inductive NatsAt (H : Hp) : List Addr → List (List Nat) → Prop where
  | nil : NatsAt H [] []
  | cons {a : Addr} {l : List Nat} {as : List Addr} {ls : List (List Nat)} : H a = some (.lst (natV l)) → NatsAt H as ls → NatsAt H (a :: as) (l :: ls)
theorem NatsAt.keep {H H' : Hp} {as : List Addr} {ls : List (List Nat)} (h : NatsAt H as ls) (s : ∀ (b : Addr) (xs : List V), H b = some (.lst xs) → H' b = some (.lst xs)) : NatsAt H' as ls := by
  induction h with
  | nil => exact .nil
  | cons a _ ih => exact .cons (s _ _ a) ih
theorem NatsAt.add {H : Hp} {as : List Addr} {ls : List (List Nat)} (h : NatsAt H as ls) {a : Addr} {l : List Nat} (x : H a = some (.lst (natV l))) : NatsAt H (as ++ [a]) (ls ++ [l]) := by
  induction h with
  | nil => exact .cons x .nil
  | cons b _ ih => exact .cons b ih
theorem NatsAt.len {H : Hp} {as : List Addr} {ls : List (List Nat)} (h : NatsAt H as ls) : as.length = ls.length := by
  induction h with
  | nil => rfl
  | cons _ _ ih => rw [List.length_cons, List.length_cons, ih]
theorem NatsAt.get {H : Hp} {as : List Addr} {ls : List (List Nat)} (h : NatsAt H as ls) : ∀ {i : Nat} {l : List Nat}, ls[i]? = some l → ∃ a, as[i]? = some a ∧ H a = some (.lst (natV l)) := by
  induction h with
  | nil => intro i r e; simp at e
  | @cons a r as rs x _ ih =>
    intro i r' e
    cases i with
    | zero => exact ⟨a, rfl, by rw [List.getElem?_cons_zero] at e; rw [← Option.some.inj e]; exact x⟩
    | succ i => rw [List.getElem?_cons_succ] at e; obtain ⟨t', h1, h2⟩ := ih e; exact ⟨t', h1, h2⟩
def mF (lc d : Addr) : List (Str × V) := [("choices", .ref lc), ("mould_on", .ref d)]
theorem mF_c (lc d : Addr) : (mF lc d).lookup ("choices" : Str) = some (.ref lc) := lk_here
theorem mF_d (lc d : Addr) : (mF lc d).lookup ("mould_on" : Str) = some (.ref d) := (lk_past (by decide +kernel)).trans lk_here
theorem mF_new (lc d : Addr) : putF "mould_on" (.ref d) (putF "choices" (.ref lc) []) = mF lc d := (put_past (by decide +kernel)).trans rfl
theorem mF_place (lc d : Addr) : (mF lc d).lookup ("place" : Str) = none := (lk_past (by decide +kernel)).trans ((lk_past (by decide +kernel)).trans rfl)
def dKV (d : D) : List (Key × V) := d.map fun q => (Sum.inl (q.1 : Int), V.int (q.2 : Int))
def tKV (t : List Nat) : List (Key × V) := t.map fun (j : Nat) => (Sum.inl (j : Int), V.bl true)
structure MatAt (C : Addr) (H : Hp) (p lc d : Addr) (chs : List (List Nat)) (dd : D) : Prop where
  ob : ∃ dx, H p = some (.ins C dx (mF lc d))
  ch : ∃ as, H lc = some (.lst (as.map V.ref)) ∧ NatsAt H as chs
  di : H d = some (.dK (dKV dd))
structure TMat (K : PySem.W.Frag) (C : Addr) : Prop where
  cl : Cls K C
  n1 : NoAttr K C "choices"
  n2 : NoAttr K C "mould_on"
theorem key_eq {a b : Nat} : ((Sum.inl (a : Int) : Key) = Sum.inl (b : Int)) ↔ a = b := ⟨fun h => by have := Sum.inl.inj h; omega, fun h => by rw [h]⟩
theorem look_is (j : Nat) : ∀ d : D, valV (dKV d) (Sum.inl (j : Int)) = (look d j).map fun m => V.int (m : Int)
  | [] => rfl
  | p :: d => by
    show valV ((Sum.inl (p.1 : Int), V.int (p.2 : Int)) :: dKV d) _ = _
    rw [look_cons]
    by_cases c : p.1 = j
    · rw [valV_pos (key_eq.mpr c), if_pos c]; rfl
    · rw [valV_neg (fun z => c (key_eq.mp z)), if_neg c]; exact look_is j d
theorem tried_is (j : Nat) : ∀ t : List Nat, valV (tKV t) (Sum.inl (j : Int)) = if j ∈ t then some (V.bl true) else none
  | [] => rfl
  | k :: t => by
    show valV ((Sum.inl (k : Int), V.bl true) :: tKV t) _ = _
    by_cases c : k = j
    · rw [valV_pos (key_eq.mpr c), if_pos (by rw [c]; exact List.mem_cons_self ..)]
    · rw [valV_neg (fun z => c (key_eq.mp z)), tried_is j t]
      by_cases c2 : j ∈ t
      · rw [if_pos c2, if_pos (List.mem_cons_of_mem _ c2)]
      · rw [if_neg c2, if_neg (fun z => by
          rcases List.mem_cons.mp z with q | q
          · exact c q.symm
          · exact c2 q)]
theorem put_is (d : D) (j m : Nat) : putK (dKV d) (Sum.inl (j : Int)) (V.int (m : Int)) = dKV (put d j m) := by
  have ea : ((dKV d).any fun kv => decide (kv.1 = Sum.inl (j : Int))) = (d.any fun kv => decide (kv.1 = j)) := by
    unfold dKV
    rw [List.any_map]
    congr 1
    funext q
    exact decide_eq_decide.mpr key_eq
  unfold putK put
  rw [ea]
  by_cases h : (d.any fun kv => decide (kv.1 = j)) = true
  · rw [if_pos h, if_pos h]
    unfold dKV
    rw [List.map_map, List.map_map]
    refine List.map_congr_left fun q _ => ?_
    show (if (Sum.inl (q.1 : Int) : Key) = Sum.inl (j : Int) then ((Sum.inl (q.1 : Int) : Key), V.int (m : Int)) else ((Sum.inl (q.1 : Int) : Key), V.int (q.2 : Int))) = _
    by_cases c : q.1 = j
    · rw [if_pos (key_eq.mpr c)]
      show _ = ((fun q : Nat × Nat => ((Sum.inl (q.1 : Int) : Key), V.int (q.2 : Int))) (if q.1 = j then (q.1, m) else q))
      rw [if_pos c]
    · rw [if_neg (fun z => c (key_eq.mp z))]
      show _ = ((fun q : Nat × Nat => ((Sum.inl (q.1 : Int) : Key), V.int (q.2 : Int))) (if q.1 = j then (q.1, m) else q))
      rw [if_neg c]
  · rw [if_neg h, if_neg h]
    unfold dKV
    rw [List.map_append]
    rfl
theorem tput_is (t : List Nat) (j : Nat) (h : j ∉ t) : putK (tKV t) (Sum.inl (j : Int)) (V.bl true) = tKV (t ++ [j]) := by
  unfold putK
  rw [if_neg]
  · unfold tKV
    rw [List.map_append]; rfl
  · intro z
    obtain ⟨x, hx, e⟩ := List.any_eq_true.mp z
    unfold tKV at hx
    obtain ⟨k, hk, e2⟩ := List.mem_map.mp hx
    subst e2
    exact h (by rw [← key_eq.mp (of_decide_eq_true e)]; exact hk)
/-! ### Matching(..) -/
def spMatInit (C : Addr) : Sp := fun vs H Q _ => ∃ (p dx lo lm : Addr) (os ms : List Rating), vs = [.ref p, .ref lo, .ref lm] ∧ H p = some (.ins C dx []) ∧ RatL H lo os ∧ RatL H lm ms ∧ os.length ≤ 5 ∧ ms.length ≤ 5 ∧
  ∀ (H' : Hp) (lc d : Addr), H lc = none → H d = none → MatAt C H' p lc d (os.map fun r => fitFrom r 0 ms) [] → But [p] H H' → Q .non H'
section
variable {P : Program} {w : World} {K : PySem.W.Frag} {mg : Str → Option Value} {base : Heap} {f C : Addr} {fd : FuncData}
theorem scMI : FnScope ["self", "moulds", "machines", "mould"] ["self", "moulds", "machines"] (defScope sMatInit) := ⟨rfl, rfl, rfl, by decide +kernel, rfl, by decide +kernel, by decide +kernel⟩
theorem ok_matInit (F : Fun K "__init__" "Matching.__init__" sMatInit f fd) (T : TMat K C) (D1 : Def P w K mg base 2 "fitting_machines" ["mould", "machines"] spFitM) : FnOk P w K mg base CX0 3 f fd ["self", "moulds", "machines"] (spMatInit C) := by
  refine F.ok scMI (fun vs H Q E h => ?_) (fun cdv A outer s H vs Q E hr h => ?_)
  · obtain ⟨p, dx, lo, lm, os, ms, rfl, _⟩ := h
    rfl
  obtain ⟨p, dx, lo, lm, os, ms, rfl, hp, ho, hm, o5, m5, k⟩ := h
  refine ⟨_, pss_cons (ps_fld (pv 0) (pe_lc (own := [("mould", 3)]) (g := gName 3) (tt := tYes) (te := tCall spFitM [] E0 (tCons (tVar 3) (tCons (tVar 2) tNil))) rfl scMI.nd (pi_list (pv 1)) (blkOk_by (own := [("mould", 3)]) (N := ["self", "moulds", "machines", "mould"]) (sc := defScope sMatInit) (by decide +kernel))
      (fun _ _ _ _ _ => pg_name (i := 3) scMI.nd rfl (Or.inl rfl)) (fun _ _ _ _ _ => pts_nil) (fun _ _ _ _ _ => pe_callD D1 hr (pa_cons (pv 3) (pa_cons (pv 2) pa_nil)))) rfl)
    (pss_one (ps_fld (pv 0) pe_dnewK rfl)), ?_⟩
  obtain ⟨ts, hl, hts⟩ := id ho
  have hlen := hts.len
  refine ⟨_, rfl, lo, rfl, ⟨_, SqL.of hl⟩, fun lc hlc => ?_⟩
  refine lc_list (K := K) (a := lo) (xs := ts.map V.ref) (fun i H' => Same H H' ∧ ∃ as, H' lc = some (.lst (as.map V.ref)) ∧ NatsAt (Off lc H') as ((os.take i).map fun r => fitFrom r 0 ms)) ⟨same_new hlc _, [], upd_same, .nil⟩ (fun i H' _ z => SqL.of (z.1 _ _ hl)) ?_ ?_
  · rintro i x H' hi ⟨s1, as, h1, h2⟩
    rw [List.getElem?_map] at hi
    obtain ⟨u, hu, rfl⟩ := Option.map_eq_some_iff.mp hi
    have hi' : i < os.length := by
      have := (List.getElem?_eq_some_iff.mp hu).1
      omega
    obtain ⟨r, hr'⟩ := get_some hi'
    obtain ⟨u', hu', rt⟩ := hts.get hr'
    rw [hu] at hu'
    cases hu'
    refine ⟨rfl, ?_⟩
    refine ⟨_, rfl, _, rfl, u, lm, r, ms, rfl, s1 _ _ rt, hm.same s1, m5, fun H'' a ha0 ha s2 => ?_⟩
    have alc : a ≠ lc := fun z => by rw [z, h1] at ha0; cases ha0
    have h1' := s2 _ _ h1
    refine ⟨_, h1', small1000 (by have := h2.len; rw [List.length_map, this, List.length_map, List.length_take]; omega), ?_, as ++ [a], ?_, ?_⟩
    · intro b o e
      rw [upd_ne (ne_of_none e hlc)]
      exact s2 _ _ (s1 b o e)
    · rw [upd_same, List.map_append]; rfl
    · rw [take_more hr', List.map_append]
      refine NatsAt.add ?_ (Off.of alc (by rw [upd_ne alc]; exact ha))
      refine h2.keep fun b xs e => ?_
      obtain ⟨e1, e2⟩ := Off.inv e
      exact Off.of e1 (by rw [upd_ne e1]; exact s2 _ _ e2)
  · rintro H' ⟨s1, as, h1, h2⟩
    rw [List.length_map, hlen, List.take_length] at h2
    refine ⟨_, rfl, p, C, dx, [], rfl, s1 _ _ hp, T.cl, T.n1, (by show 0 < 1000; decide), ?_⟩
    intro d hd
    have pd : p ≠ d := fun z => by rw [← z, upd_same] at hd; cases hd
    refine ⟨_, rfl, p, C, dx, _, rfl, (by rw [upd_ne pd]; exact upd_same), T.cl, T.n2, (by show 1 < 1000; decide), ?_⟩
    have plc : p ≠ lc := ne_of_none hp hlc
    have hd' : H' d = none := by rw [upd_ne pd.symm] at hd; exact hd
    have lcd : lc ≠ d := fun z => by rw [← z, h1] at hd'; cases hd'
    have bt : But [p] H (upd (upd (upd H' p (.ins C dx (putF "choices" (V.ref lc) []))) d (.dK [])) p (.ins C dx (putF "mould_on" (V.ref d) (putF "choices" (V.ref lc) [])))) := fun b o e n => by
      have bp : b ≠ p := fun z => n (by rw [z]; exact List.mem_singleton_self p)
      rw [upd_ne bp, upd_ne (ne_of_none (s1 _ _ e) hd'), upd_ne bp]
      exact s1 _ _ e
    refine k _ lc d hlc (s1.free hd') ⟨⟨dx, Eq.trans upd_same (congrArg (fun l => some (HO.ins C dx l)) (mF_new lc d))⟩, ⟨as, ?_, ?_⟩, ?_⟩ bt
    · rw [upd_ne plc.symm, upd_ne lcd, upd_ne plc.symm]; exact h1
    · refine h2.keep fun b xs e => ?_
      obtain ⟨e1, e2⟩ := Off.inv e
      have bp : b ≠ p := fun z => by rw [z, s1 _ _ hp] at e2; cases e2
      have bd : b ≠ d := fun z => by rw [z, hd'] at e2; cases e2
      rw [upd_ne bp, upd_ne bd, upd_ne bp]
      exact e2
    · rw [upd_ne pd.symm, upd_same]; rfl
end
end Mp
/-! Ho -/
set_option Elab.async false
set_option maxRecDepth 100000
set_option maxHeartbeats 4000000
namespace Mp
open PySem PySem.Spec PyProof.Rows L2
open Sr117 (Shop Rating)
/-- the choices by the mould's number -/
def chOf (chs : List (List Nat)) : Nat → List Nat := fun m => chs.getD m []
/-- what place asks: at most `few` machines, each tried once; the moulds told are moulds -/
structure PlaceOk (chs : List (List Nat)) (few : Nat) (dd : D) (t : List Nat) (m : Nat) : Prop where
  m5 : m < chs.length
  f5 : few ≤ 5
  ch : ∀ l ∈ chs, ∀ j ∈ l, j < few
  len : ∀ l ∈ chs, l.length ≤ 5
  nd : t.Nodup
  lt : ∀ j ∈ t, j < few
  mo : ∀ q ∈ dd, q.2 < chs.length
  d5 : dd.length ≤ few
  dn : (dd.map (·.1)).Nodup
  dl : ∀ q ∈ dd, q.1 < few
def spPlace (C : Addr) (few n : Nat) : Sp := fun vs H Q _ => ∃ (p lc d td : Addr) (chs : List (List Nat)) (dd : D) (t : List Nat) (m : Nat), vs = [.ref p, .int (m : Int), .ref td] ∧ MatAt C H p lc d chs dd ∧ H td = some (.dK (tKV t)) ∧ td ≠ d ∧
  PlaceOk chs few dd t m ∧ few < n + t.length ∧
  ∀ H', MatAt C H' p lc d chs (place (chOf chs) n dd t m).2.1 → H' td = some (.dK (tKV (place (chOf chs) n dd t m).2.2)) → PlaceOk chs few (place (chOf chs) n dd t m).2.1 (place (chOf chs) n dd t m).2.2 m → But [d, td] H H' → Q (.bl (place (chOf chs) n dd t m).1) H'
theorem put_keys {dd : D} {j m few : Nat} (dn : (dd.map (·.1)).Nodup) (dl : ∀ q ∈ dd, q.1 < few) (hj : j < few) : (put dd j m).length ≤ few ∧ ∀ q ∈ put dd j m, q.1 < few := by
  have hk : ∀ x ∈ (put dd j m).map (·.1), x < few := by
    intro x hx
    rw [keys_put] at hx
    have h1 : ∀ x ∈ dd.map (·.1), x < few := fun x hx => by
      obtain ⟨q, hq, rfl⟩ := List.mem_map.mp hx
      exact dl q hq
    by_cases c : (look dd j).isSome = true
    · rw [if_pos c] at hx; exact h1 x hx
    · rw [if_neg c] at hx
      rcases List.mem_append.mp hx with hx | hx
      · exact h1 x hx
      · rw [List.mem_singleton.mp hx]; exact hj
  refine ⟨?_, fun q hq => hk q.1 (List.mem_map.mpr ⟨q, hq, rfl⟩)⟩
  have := len_lt (nodup_put dn j m) hk
  rwa [List.length_map] at this
theorem put_moulds {dd : D} {j m n : Nat} (mo : ∀ q ∈ dd, q.2 < n) (hm : m < n) : ∀ q ∈ put dd j m, q.2 < n := by
  intro q hq
  unfold put at hq
  by_cases h : (dd.any fun kv => decide (kv.1 = j)) = true
  · rw [if_pos h] at hq
    obtain ⟨kv, hk, rfl⟩ := List.mem_map.mp hq
    by_cases c : kv.1 = j
    · rw [if_pos c]; exact hm
    · rw [if_neg c]; exact mo kv hk
  · rw [if_neg h] at hq
    rcases List.mem_append.mp hq with hq | hq
    · exact mo q hq
    · rw [List.mem_singleton.mp hq]; exact hm
theorem walk_len {rec : D → List Nat → Nat → R} (hr : ∀ d t m, t.length ≤ (rec d t m).2.2.length) (m : Nat) : ∀ (js : List Nat) (d : D) (t : List Nat), t.length ≤ (walk rec m js d t).2.2.length
  | [], d, t => Nat.le_refl _
  | j :: js, d, t => by
    unfold walk
    by_cases c : j ∈ t
    · rw [if_pos c]; exact walk_len hr m js d t
    · rw [if_neg c]
      cases e : look d j with
      | none =>
        show t.length ≤ (t ++ [j]).length
        rw [List.length_append]; omega
      | some m' =>
        dsimp only
        have h1 := hr d (t ++ [j]) m'
        rw [List.length_append, List.length_singleton] at h1
        cases e2 : rec d (t ++ [j]) m' with
        | mk b q =>
          obtain ⟨d', t'⟩ := q
          rw [e2] at h1
          cases b with
          | true => show t.length ≤ t'.length; have h1 : t.length + 1 ≤ t'.length := h1; omega
          | false =>
            have h1 : t.length + 1 ≤ t'.length := h1
            have := walk_len hr m js d' t'
            show t.length ≤ (walk rec m js d' t').2.2.length
            omega
theorem place_len (ch : Nat → List Nat) : ∀ (n : Nat) (d : D) (t : List Nat) (m : Nat), t.length ≤ (place ch n d t m).2.2.length
  | 0, _, _, _ => Nat.le_refl _
  | n + 1, d, t, m => walk_len (place_len ch n) m (ch m) d t
theorem MatAt.moved {C : Addr} {H H' : Hp} {p lc d td : Addr} {chs : List (List Nat)} {dd dd' : D} {t : List Nat} (M : MatAt C H p lc d chs dd) (ht : H td = some (.dK (tKV t))) (b : But [d, td] H H') (hd : H' d = some (.dK (dKV dd'))) : MatAt C H' p lc d chs dd' := by
  obtain ⟨dx, h1⟩ := M.ob
  obtain ⟨as, h2, h3⟩ := M.ch
  have no : ∀ (z : Addr) (o : HO), H z = some o → (∀ kvs, o ≠ .dK kvs) → z ∉ [d, td] := fun z o e n m => by
    rcases List.mem_cons.mp m with q | q
    · rw [q, M.di] at e; exact n _ (Option.some.inj e).symm
    · rw [List.mem_singleton.mp q, ht] at e; exact n _ (Option.some.inj e).symm
  exact ⟨⟨dx, b _ _ h1 (no _ _ h1 (by intro kvs z; cases z))⟩, ⟨as, b _ _ h2 (no _ _ h2 (by intro kvs z; cases z)), h3.keep fun z xs e => b _ _ e (no _ _ e (by intro kvs z; cases z))⟩, hd⟩
section
variable {P : Program} {w : World} {K : PySem.W.Frag} {mg : Str → Option Value} {base : Heap} {f C : Addr} {fd : FuncData}
theorem scPl : FnScope ["self", "mould", "tried", "machine"] ["self", "mould", "tried"] (defScope sPlace) := ⟨rfl, rfl, rfl, by decide +kernel, rfl, by decide +kernel, by decide +kernel⟩
theorem ok_place1 {few n : Nat} (F : Fun K "place" "Matching.place" sPlace f fd) (T : TMat K C) (b : Binds K fd ["self", "mould", "tried"] []) (mP : Meth K C "place" f)
    (G : FnOk P w K mg base CX0 n f fd ["self", "mould", "tried"] (spPlace C few n)) : FnOk P w K mg base CX0 (n + 1) f fd ["self", "mould", "tried"] (spPlace C few (n + 1)) := by
  refine F.ok scPl (fun vs H Q E h => ?_) (fun cdv A outer s H vs Q E hr h => ?_)
  · obtain ⟨p, lc, d, td, chs, dd, t, m, rfl, _⟩ := h
    rfl
  obtain ⟨p, lc, d, td, chs, dd, t, m, rfl, M, ht, ntd, ok, fuel, k⟩ := h
  have hu := hu_of (A := A.deeper (envOfC "Matching.place" (defScope sPlace) s.heap.objs.size f cdv)) hr
  refine ⟨_, pss_cons (ps_for PassesOwn.never rfl (pi_list (pe_ix ix_list (pe_fld (pv 0) rfl) (pv 1) (fun _ _ => rfl))) (pg_name (i := 3) scPl.nd rfl (Or.inl rfl))
      (pss_cons (ps_if (pt_cmp (pc_din hu (pv 3) (pv 2))) (pss_one ps_continue) pss_nil)
      (pss_cons (ps_dput hu (pv 2) (pv 3) pe_bl rfl)
      (pss_one (ps_if (PW.pt (pw_or (pt_cmp (pc_dnotin hu (pv 3) (pe_fld (pv 0) rfl))) (pw_or1 (pt_val (pe_meth (pv 0) T.cl mP G hr b .nil pass0 (pa_cons (pe_dget hu (pe_fld (pv 0) rfl) (pv 3) (fun _ _ => rfl)) (pa_cons (pv 2) pa_nil)))))))
        (pss_cons (ps_dput hu (pe_fld (pv 0) rfl) (pv 3) (pv 1) rfl) (pss_one (ps_ret pe_bl))) pss_nil)))))
    (pss_one (ps_ret pe_bl)), ?_⟩
  obtain ⟨dx, h1⟩ := M.ob
  obtain ⟨as, h2, h3⟩ := M.ch
  obtain ⟨js, hjs⟩ := get_some ok.m5
  obtain ⟨a, ha, hal⟩ := h3.get hjs
  have ech : chOf chs m = js := by
    unfold chOf
    rw [List.getD_eq_getElem?_getD, hjs]; rfl
  have hmem : js ∈ chs := List.mem_of_getElem? hjs
  refine ⟨_, rfl, p, C, dx, _, _, rfl, h1, T.cl, T.n1, mF_c _ _, _, rfl, lc, _, _, .ref a, rfl, rfl, SqL.of h2, atI_of (by omega) (by rw [List.getElem?_map, show ((m : Nat) : Int).toNat = m by omega, ha]; rfl), a, rfl, ⟨_, SqL.of hal⟩, ?_⟩
  have no : ∀ (z : Addr) (o : HO), H z = some o → (∀ kvs, o ≠ .dK kvs) → z ∉ [d, td] := fun z o e n m => by
    rcases List.mem_cons.mp m with q | q
    · rw [q, M.di] at e; exact n _ (Option.some.inj e).symm
    · rw [List.mem_singleton.mp q, ht] at e; exact n _ (Option.some.inj e).symm
  refine for_list (K := K) (a := a) (xs := natV js) (fun i σ H' => ∃ (dd' : D) (t' : List Nat) (v : Option V), σ = [some (.ref p), some (.int (m : Int)), some (.ref td), v] ∧ MatAt C H' p lc d chs dd' ∧ H' td = some (.dK (tKV t')) ∧ PlaceOk chs few dd' t' m ∧
      t.length ≤ t'.length ∧ But [d, td] H H' ∧ walk (place (chOf chs) n) m (js.drop i) dd' t' = place (chOf chs) (n + 1) dd t m)
    ⟨dd, t, none, rfl, M, ht, ok, Nat.le_refl _, fun _ _ e _ => e, by show walk _ m js dd t = walk _ m (chOf chs m) dd t; rw [ech]⟩
    (fun i σ H' _ ⟨_, _, _, _, _, _, _, _, b', _⟩ => SqL.of (b' _ _ hal (no _ _ hal (by intro kvs z; cases z)))) ?_ ?_
  · rintro i x σ H' hi ⟨dd', t', v, rfl, M', ht', ok', hle, b', hw⟩
    have hil : i < js.length := by
      have := (List.getElem?_eq_some_iff.mp hi).1
      unfold natV at this
      rwa [List.length_map] at this
    obtain ⟨j, hj⟩ := get_some hil
    have ex : x = .int (j : Int) := by
      unfold natV at hi
      rw [List.getElem?_map, hj] at hi
      exact (Option.some.inj hi).symm
    subst ex
    have hdrop : js.drop i = j :: js.drop (i + 1) := by
      rw [List.drop_eq_getElem_cons hil]
      congr 1
      exact Option.some.inj ((List.getElem?_eq_getElem hil).symm.trans hj)
    have hjf : j < few := ok.ch js hmem j (List.mem_of_getElem? hj)
    rw [hdrop] at hw
    unfold walk at hw
    obtain ⟨dx', g1⟩ := M'.ob
    -- if machine in tried: continue
    refine ⟨_, rfl, _, rfl, td, _, rfl, DGet.k (k := Sum.inl (j : Int)) ht', _, rfl, ?_⟩
    rw [tried_is]
    by_cases ct : j ∈ t'
    · rw [if_pos ct] at hw
      rw [if_pos ct]
      exact iteT ⟨dd', t', _, rfl, M', ht', ok', hle, b', hw⟩
    · rw [if_neg ct] at hw
      rw [if_neg ct]
      refine iteF ?_
      -- tried[machine] = True
      have tl : t'.length ≤ 5 := Nat.le_trans (len_lt ok'.nd ok'.lt) ok.f5
      refine ⟨_, rfl, _, rfl, td, _, rfl, DPut.k (k := Sum.inl (j : Int)) ht' (small1000 (by unfold tKV; rw [List.length_map]; omega)), ?_⟩
      rw [tput_is _ _ ct]
      have bq : But [d, td] H' (upd H' td (.dK (tKV (t' ++ [j])))) := (But.upd _).mono fun z m => by rw [List.mem_singleton.mp m]; exact List.mem_cons_of_mem _ (List.mem_cons_self ..)
      have M2 := M'.moved ht' bq (by rw [upd_ne ntd.symm]; exact M'.di)
      have ht2 : (upd H' td (.dK (tKV (t' ++ [j])))) td = some (.dK (tKV (t' ++ [j]))) := upd_same
      have b2 := b'.trans bq
      have ok2 : PlaceOk chs few dd' (t' ++ [j]) m := { ok' with
        nd := List.nodup_append.mpr ⟨ok'.nd, by simp, fun a ha b hb e => by
          rw [List.mem_singleton] at hb
          subst e; subst hb
          exact ct ha⟩
        lt := fun z hz => by
          rcases List.mem_append.mp hz with hz | hz
          · exact ok'.lt z hz
          · rw [List.mem_singleton.mp hz]; exact hjf }
      have hle2 : t.length ≤ (t' ++ [j]).length := by rw [List.length_append]; omega
      generalize upd H' td (.dK (tKV (t' ++ [j]))) = H2 at *
      obtain ⟨dx2, g2⟩ := M2.ob
      -- what is stored at the end of a way that places the mould
      have store : ∀ (H3 : Hp) (dd3 : D) (t3 : List Nat), MatAt C H3 p lc d chs dd3 → H3 td = some (.dK (tKV t3)) → PlaceOk chs few dd3 t3 m → But [d, td] H H3 → (true, put dd3 j m, t3) = place (chOf chs) (n + 1) dd t m →
          ∃ dx3, H3 p = some (.ins C dx3 (mF lc d)) ∧ DPut H3 d (.int (j : Int)) (.int (m : Int)) (upd H3 d (.dK (dKV (put dd3 j m)))) ∧ (∀ w, w = V.bl true → Q w (upd H3 d (.dK (dKV (put dd3 j m))))) := by
        intro H3 dd3 t3 M3 ht3 ok3 b3 e3
        obtain ⟨dx3, g3⟩ := M3.ob
        have dp := DPut.k (k := (Sum.inl (j : Int) : Key)) (v := .int (m : Int)) M3.di (small1000 (by unfold dKV; rw [List.length_map]; have := ok3.d5; have := ok.f5; omega))
        rw [put_is] at dp
        refine ⟨dx3, g3, dp, fun w ew => ?_⟩
        subst ew
        have bz : But [d, td] H3 (upd H3 d (.dK (dKV (put dd3 j m)))) := (But.upd _).mono fun z m => by rw [List.mem_singleton.mp m]; exact List.mem_cons_self ..
        have pk := put_keys (m := m) ok3.dn ok3.dl hjf
        rw [← e3] at k
        exact k _ (M3.moved ht3 bz upd_same) (by rw [upd_ne ntd]; exact ht3) { ok3 with mo := put_moulds ok3.mo ok3.m5, d5 := pk.1, dn := nodup_put ok3.dn j m, dl := pk.2 } (b3.trans bz)
      -- if machine not in self.mould_on or self.place(..)
      refine ⟨_, rfl, _, rfl, p, C, dx2, _, _, rfl, g2, T.cl, T.n2, mF_d _ _, d, _, rfl, DGet.k (k := Sum.inl (j : Int)) M2.di, _, rfl, ?_⟩
      rw [look_is]
      cases el : look dd' j with
      | none =>
        rw [el] at hw
        dsimp only at hw
        refine iteT ?_
        refine iteT ?_
        obtain ⟨dx3, g3, dp, fin⟩ := store H2 dd' (t' ++ [j]) M2 ht2 ok2 b2 hw
        exact ⟨_, rfl, _, rfl, p, C, dx3, _, _, rfl, g3, T.cl, T.n2, mF_d _ _, _, rfl, d, _, rfl, dp, fin _ rfl⟩
      | some m' =>
        rw [el] at hw
        dsimp only at hw
        refine iteF ?_
        have hm' : m' < chs.length := ok'.mo (j, m') (look_mem el)
        have dg : DGet H2 d (.int (j : Int)) (some (.int (m' : Int))) := by
          have := DGet.k (k := (Sum.inl (j : Int) : Key)) M2.di
          rw [look_is, el] at this
          exact this
        refine ⟨_, rfl, p, dx2, _, rfl, g2, mF_place _ _, _, rfl, p, C, dx2, _, _, rfl, g2, T.cl, T.n2, mF_d _ _, _, rfl, d, _, rfl, dg, _, rfl, ?_⟩
        have ok2' : PlaceOk chs few dd' (t' ++ [j]) m' := { ok2 with m5 := hm' }
        refine ⟨p, lc, d, td, chs, dd', t' ++ [j], m', rfl, M2, ht2, ntd, ok2', by rw [List.length_append, List.length_singleton]; omega, fun H3 M3 ht3 ok3 b3 => ?_⟩
        have hle3 := place_len (chOf chs) n dd' (t' ++ [j]) m'
        cases ep : place (chOf chs) n dd' (t' ++ [j]) m' with
        | mk bb q =>
          obtain ⟨dd3, t3⟩ := q
          rw [ep] at hw M3 ht3 ok3 hle3
          dsimp only at M3 ht3 ok3 hle3
          have ok3' : PlaceOk chs few dd3 t3 m := { ok3 with m5 := ok.m5 }
          have b03 := b2.trans b3
          refine ⟨_, rfl, ?_⟩
          cases bb with
          | true =>
            refine iteT ?_
            obtain ⟨dx3, g3, dp, fin⟩ := store H3 dd3 t3 M3 ht3 ok3' b03 hw
            exact ⟨_, rfl, _, rfl, p, C, dx3, _, _, rfl, g3, T.cl, T.n2, mF_d _ _, _, rfl, d, _, rfl, dp, fin _ rfl⟩
          | false =>
            refine iteF ?_
            exact ⟨dd3, t3, _, rfl, M3, ht3, ok3', Nat.le_trans hle2 hle3, b03, hw⟩
  · rintro σ H' ⟨dd', t', v, rfl, M', ht', ok', hle, b', hw⟩
    unfold natV at hw
    rw [List.length_map, List.drop_length] at hw
    have hw : (false, dd', t') = place (chOf chs) (n + 1) dd t m := hw
    rw [← hw] at k
    exact k H' M' ht' ok' b'
end
end Mp
/-! Hp -/
set_option Elab.async false
set_option maxRecDepth 100000
set_option maxHeartbeats 4000000
namespace Mp
open PySem PySem.Spec PyProof.Rows L2
open Sr117 (Shop Rating)
abbrev sCount : Stmt := top 27
theorem fitFrom_range (r : Rating) : ∀ (qs : List Rating) (j : Nat), fitFrom r j qs = (List.range' j qs.length).filter fun x => fit1 r (qs.getD (x - j) ⟨0, 0⟩)
  | [], _ => rfl
  | q :: qs, j => by
    rw [fitFrom, List.length_cons, List.range'_succ, List.filter_cons, fitFrom_range r qs (j + 1)]
    have e : (List.range' (j + 1) qs.length).filter (fun x => fit1 r ((q :: qs).getD (x - j) ⟨0, 0⟩)) = (List.range' (j + 1) qs.length).filter (fun x => fit1 r (qs.getD (x - (j + 1)) ⟨0, 0⟩)) := by
      refine List.filter_congr fun x hx => ?_
      have hx := (List.mem_range'_1.mp hx).1
      rw [show x - j = (x - (j + 1)) + 1 by omega, List.getD_cons_succ]
    rw [e, Nat.sub_self, List.getD_cons_zero]
theorem fitM_is (s : Shop) {i : Nat} (h : i < s.moulds.length) : fitM s i = fitFrom (s.moulds.getD i ⟨0, 0⟩) 0 s.machines := by
  rw [fitFrom_range, ← List.range_eq_range']
  unfold fitM
  refine List.filter_congr fun x hx => ?_
  have hx := List.mem_range.mp hx
  unfold Sr117.fits fit1 Sr117.mouldAt Sr117.machineAt
  rw [decide_eq_true h, decide_eq_true hx, Nat.sub_zero]
  rfl
theorem fitM_none (s : Shop) {i : Nat} (h : ¬ i < s.moulds.length) : fitM s i = [] := by
  unfold fitM
  rw [List.filter_eq_nil_iff]
  intro x _ c
  exact h (fits_lt c).1
theorem chOf_is (s : Shop) : chOf (s.moulds.map fun r => fitFrom r 0 s.machines) = fitM s := by
  funext i
  unfold chOf
  by_cases h : i < s.moulds.length
  · rw [fitM_is s h, List.getD_eq_getElem?_getD, List.getElem?_map, List.getElem?_eq_getElem h, List.getD_eq_getElem?_getD, List.getElem?_eq_getElem h]
    rfl
  · rw [fitM_none s h, List.getD_eq_getElem?_getD, List.getElem?_eq_none (by rw [List.length_map]; omega)]
    rfl
def spCount : Sp := fun vs H Q _ => ∃ (lo lm : Addr) (s : Shop), vs = [.ref lo, .ref lm] ∧ RatL H lo s.moulds ∧ RatL H lm s.machines ∧ s.moulds.length ≤ 5 ∧ s.machines.length ≤ 5 ∧
  ∀ H', Same H H' → Q (.int (Sr117.maxRunning s : Int)) H'
section
variable {P : Program} {w : World} {K : PySem.W.Frag} {mg : Str → Option Value} {base : Heap} {f fI fP C : Addr} {fd : FuncData}
theorem ok_place {few : Nat} {fdP : FuncData} (F : Fun K "place" "Matching.place" sPlace fP fdP) (T : TMat K C) (b : Binds K fdP ["self", "mould", "tried"] []) (mP : Meth K C "place" fP) : ∀ n, FnOk P w K mg base CX0 n fP fdP ["self", "mould", "tried"] (spPlace C few n)
  | 0 => by
    have no : ∀ vs H Q E, ¬ spPlace C few 0 vs H Q E := fun vs H Q E h => by
      obtain ⟨p, lc, d, td, chs, dd, t, m, _, _, _, _, ok, fu, _⟩ := h
      have := len_lt ok.nd ok.lt
      omega
    exact ⟨fun vs H Q E h => absurd h (no vs H Q E), fun A outer s H args us vs Q E _ _ _ _ h => absurd h (no vs H Q E)⟩
  | n + 1 => ok_place1 F T b mP (ok_place F T b mP n)
theorem scCo : FnScope ["moulds", "machines", "matching", "mould"] ["moulds", "machines"] (defScope sCount) := ⟨rfl, rfl, rfl, by decide +kernel, rfl, by decide +kernel, by decide +kernel⟩
theorem fitFrom_lt (r : Rating) (qs : List Rating) : ∀ j ∈ fitFrom r 0 qs, j < qs.length := fun j hj => by
  rw [fitFrom_range] at hj
  have := (List.mem_range'_1.mp (List.mem_filter.mp hj).1).2
  omega
theorem ok_count {gI gP : FuncData} (F : Fun K "count_running" "count_running" sCount f fd) (T : TMat K C) (mr : mg "range" = none) (ml : mg "len" = none)
    (M : Mk K C fI) (mM : mg "Matching" = some (.ref C)) (GI : FnOk P w K mg base CX0 3 fI gI ["self", "moulds", "machines"] (spMatInit C)) (bI : Binds K gI ["self", "moulds", "machines"] [])
    (FP : Fun K "place" "Matching.place" sPlace fP gP) (bP : Binds K gP ["self", "mould", "tried"] []) (mP : Meth K C "place" fP) : FnOk P w K mg base CX0 7 f fd ["moulds", "machines"] spCount := by
  refine F.ok scCo (fun vs H Q E h => ?_) (fun cdv A outer s H vs Q E hr h => ?_)
  · obtain ⟨lo, lm, s, rfl, _⟩ := h
    rfl
  obtain ⟨lo, lm, sh, rfl, ho, hm, o5, m5, k⟩ := h
  have GP : FnOk P w K mg base CX0 6 fP gP ["self", "mould", "tried"] (spPlace C sh.machines.length (sh.machines.length + 1)) := (ok_place FP T bP mP (sh.machines.length + 1)).mono (by omega)
  refine ⟨_, pss_cons (ps_set (i := 2) scCo.nd rfl (Or.inl rfl) (pe_make M GI (hr.mono (by decide)) rfl mM bI .nil pass0 (pa_cons (pv 0) (pa_cons (pv 1) pa_nil))))
    (pss_cons (ps_for PassesOwn.never rfl (pi_range1 rfl mr (pa_cons (pe_callB call_len_seq rfl ml PySem.boot_len (pa_cons (pv 0) pa_nil)) pa_nil)) (pg_name (i := 3) scCo.nd rfl (Or.inl rfl))
      (pss_one (ps_expr (pe_meth (pv 2) T.cl mP GP hr bP .nil pass0 (pa_cons (pv 3) (pa_cons pe_dnewK pa_nil))))))
    (pss_one (ps_ret (pe_callB call_lenD rfl ml PySem.boot_len (pa_cons (pe_fld (pv 2) rfl) pa_nil))))), ?_⟩
  obtain ⟨ts, hl, hts⟩ := id ho
  have hll : (ts.map V.ref).length = sh.moulds.length := by rw [List.length_map, hts.len]
  refine ⟨_, rfl, _, rfl, ?_⟩
  intro p dx np ndx nex
  have s0 : Same H (upd (upd H dx (.own p)) p (.ins C dx [])) := fun b o e => by
    rw [upd_ne (ne_of_none e np), upd_ne (ne_of_none e ndx)]
    exact e
  refine ⟨p, dx, lo, lm, sh.moulds, sh.machines, rfl, upd_same, ho.same s0, hm.same s0, o5, m5, fun H1 lc d hlc hd M1 b1 => ⟨rfl, ?_⟩⟩
  have s1 : Same H H1 := Same.made np ndx fun b o e n => b1 b o e (not1 n)
  have hd0 : H d = none := s0.free hd
  refine ⟨_, rfl, lo, _, rfl, .inl (SqL.of (s1 _ _ hl)), ?_⟩
  rw [hll]
  have ech := chOf_is sh
  refine ⟨_, rfl, by omega, by omega, ?_⟩
  have en : ((sh.moulds.length : Nat) : Int).toNat = sh.moulds.length := by omega
  rw [en]
  have hcl : ∀ l ∈ sh.moulds.map (fun r => fitFrom r 0 sh.machines), (∀ j ∈ l, j < sh.machines.length) ∧ l.length ≤ 5 := fun l h => by
    obtain ⟨r, _, rfl⟩ := List.mem_map.mp h
    exact ⟨fitFrom_lt r _, Nat.le_trans (fitFrom_len r _ 0) m5⟩
  refine for_range (lo := 0) (n := sh.moulds.length) (fun i σ H' => ∃ v : Option V, σ = [some (.ref lo), some (.ref lm), some (.ref p), v] ∧ Same H H' ∧ MatAt C H' p lc d (sh.moulds.map fun r => fitFrom r 0 sh.machines) (placeAll (fitM sh) sh.machines.length i))
    ⟨none, rfl, s1, M1⟩ ?_ ?_
  · rintro i σ H' hi ⟨v, rfl, s2, M2⟩
    have ei : (0 : Int) + (i : Int) = (i : Int) := by omega
    rw [ei]
    obtain ⟨dx2, g2⟩ := M2.ob
    refine ⟨_, rfl, p, dx2, _, rfl, g2, mF_place _ _, _, rfl, ?_⟩
    intro td htd
    have s3 := same_new htd (.dK [])
    have mx := max_all (ch := fitM sh) (nM := sh.machines.length) (fun m j h => (fits_lt (mem_fitM.mp h)).2) i
    have dl : ∀ q ∈ placeAll (fitM sh) sh.machines.length i, q.1 < sh.machines.length ∧ q.2 < sh.moulds.length := fun q hq => by
      have := mem_is_look mx.nd (j := q.1) (m := q.2) hq
      exact ⟨(fits_lt (mem_fitM.mp (mx.edge _ _ this))).2, Nat.lt_trans (mx.small _ _ this) hi⟩
    have d5 : (placeAll (fitM sh) sh.machines.length i).length ≤ sh.machines.length := by
      have := len_lt mx.nd (n := sh.machines.length) fun x hx => by
        obtain ⟨q, hq, rfl⟩ := List.mem_map.mp hx
        exact (dl q hq).1
      rwa [List.length_map] at this
    have M3 : MatAt C (upd H' td (.dK [])) p lc d (sh.moulds.map fun r => fitFrom r 0 sh.machines) (placeAll (fitM sh) sh.machines.length i) := by
      obtain ⟨as, h2, h3⟩ := M2.ch
      exact ⟨⟨dx2, s3 _ _ g2⟩, ⟨as, s3 _ _ h2, h3.keep fun b xs e => s3 _ _ e⟩, s3 _ _ M2.di⟩
    refine ⟨p, lc, d, td, _, _, [], i, rfl, M3, upd_same, (fun z => by rw [z, M2.di] at htd; cases htd), ⟨by rw [List.length_map]; exact hi, m5, fun l h => (hcl l h).1, fun l h => (hcl l h).2, by simp, by simp, fun q hq => by rw [List.length_map]; exact (dl q hq).2, d5, mx.nd, fun q hq => (dl q hq).1⟩, by simp, fun H3 M4 _ _ b4 => ?_⟩
    rw [ech] at M4
    refine ⟨_, rfl, fun b o e => b4 b o (s3 _ _ (s2 b o e)) fun m => ?_, M4⟩
    rcases List.mem_cons.mp m with z | z
    · rw [z, hd0] at e; cases e
    · rw [List.mem_singleton.mp z, s2.free htd] at e; cases e
  · rintro σ H' ⟨v, rfl, s2, M2⟩
    obtain ⟨dx2, g2⟩ := M2.ob
    refine ⟨_, rfl, p, C, dx2, _, _, rfl, g2, T.cl, T.n2, mF_d _ _, d, _, rfl, M2.di, ?_⟩
    have e : (dKV (placeAll (fitM sh) sh.machines.length sh.moulds.length)).length = Sr117.maxRunning sh := by
      unfold dKV
      rw [List.length_map, running_is]
    rw [e]
    exact k H' s2
end
end Mp
/-! Hq0 -/
set_option Elab.async false
set_option maxRecDepth 100000
set_option maxHeartbeats 4000000
namespace Mp
open PySem PySem.Spec PyProof.Rows L2
open Sr117 (Shop Rating)
/-! ### what is due of the queries -/
theorem due_q {s : Shop} {n : Int} {ns : List Int} {xs : List (List Int)} {call : Sr117.Call} {r : SrCommon.Result} (h : Sr117Neutral.parseCall ((n :: ns) :: xs) = some call) (hc : call ≠ .create) (hp : Sr117.perform s call = (none, r)) : due s n ns xs = (s, r.code :: r.values) := by
  rw [due_of h hc, hp]
  rfl
theorem due_fits (s : Shop) (i j : Int) : due s 7 [i, j] [] = (s, [if (idx i s.moulds.length && idx j s.machines.length) = true then SrCommon.boolToInt (Sr117.fits s i.toNat j.toNat) else -2]) := by
  rw [due_q (call := .fits i j) (r := if Sr117.isMould s i = false ∨ Sr117.isMachine s j = false then .ofCode SrCommon.notFound else .ofCode (SrCommon.boolToInt (Sr117.fits s i.toNat j.toNat))) rfl (by intro z; cases z) rfl]
  have e1 : Sr117.isMould s i = idx i s.moulds.length := rfl
  have e2 : Sr117.isMachine s j = idx j s.machines.length := rfl
  rw [e1, e2]
  cases idx i s.moulds.length <;> cases idx j s.machines.length <;> rfl
theorem due_max (s : Shop) : due s 8 [] [] = (s, [(Sr117.maxRunning s : Int)]) := by
  rw [due_q (call := .maxRunning) (r := Sr117.countResult (Sr117.maxRunning s)) rfl (by intro z; cases z) rfl]
  rfl
theorem due_best (s : Shop) : due s 9 [] [] = (s, (Sr117.maxRunning s : Int) :: Sr117.encodeAssignment (Sr117.bestAssignment s)) := by
  rw [due_q (call := .bestAssignment) (r := ⟨(Sr117.maxRunning s : Int), Sr117.encodeAssignment (Sr117.bestAssignment s)⟩) rfl (by intro z; cases z) rfl]
theorem due_cover (s : Shop) : due s 10 [] [] = (s, (((Sr117.minimumCover s).1.length + (Sr117.minimumCover s).2.length : Nat) : Int) :: ((Sr117.minimumCover s).1.length : Int) :: (SrCommon.natsToInts (Sr117.minimumCover s).1 ++ SrCommon.natsToInts (Sr117.minimumCover s).2)) := by
  rw [due_q (call := .minimumCover) (r := ⟨(((Sr117.minimumCover s).1.length + (Sr117.minimumCover s).2.length : Nat) : Int), ((Sr117.minimumCover s).1.length : Int) :: (SrCommon.natsToInts (Sr117.minimumCover s).1 ++ SrCommon.natsToInts (Sr117.minimumCover s).2)⟩) rfl (by intro z; cases z) rfl]
theorem due_def (s : Shop) : due s 11 [] [] = (s, ((Sr117.maxDeficiency s).1 : Int) :: SrCommon.natsToInts (Sr117.maxDeficiency s).2) := by
  rw [due_q (call := .maxDeficiency) (r := ⟨((Sr117.maxDeficiency s).1 : Int), SrCommon.natsToInts (Sr117.maxDeficiency s).2⟩) rfl (by intro z; cases z) rfl]
def toA (es : List Int) : Sr117.Assignment := es.map fun x => if x < 0 then none else some x.toNat
theorem due_checkA (s : Shop) (es : List Int) : due s 12 [] [es] = (s, if es.length ≠ s.moulds.length ∨ es.any (fun x => decide (x < -1) || decide ((s.machines.length : Int) ≤ x)) then [-22] else [SrCommon.boolToInt (Sr117.isValidAssignment s (toA es)), (Sr117.runningCount (toA es) : Int)]) := by
  rw [due_q (call := .checkAssignment es) (r := if es.length ≠ s.moulds.length ∨ es.any (fun x => decide (x < -1) || decide ((s.machines.length : Int) ≤ x)) then .ofCode SrCommon.invalidArgument else ⟨SrCommon.boolToInt (Sr117.isValidAssignment s (toA es)), [(Sr117.runningCount (toA es) : Int)]⟩) rfl (by intro z; cases z) rfl]
  by_cases c : es.length ≠ s.moulds.length ∨ es.any (fun x => decide (x < -1) || decide ((s.machines.length : Int) ≤ x))
  · rw [if_pos c, if_pos c]; rfl
  · rw [if_neg c, if_neg c]
theorem due_checkC (s : Shop) (ms js : List Int) : due s 13 [] [ms, js] = (s, if Sr117.isMouldSet s ms = false ∨ Sr117.isMachineSet s js = false then [-22] else [SrCommon.boolToInt (Sr117.isCover s (SrCommon.intsToNats ms) (SrCommon.intsToNats js)), ((ms.length + js.length : Nat) : Int)]) := by
  rw [due_q (call := .checkCover ms js) (r := if Sr117.isMouldSet s ms = false ∨ Sr117.isMachineSet s js = false then .ofCode SrCommon.invalidArgument else ⟨SrCommon.boolToInt (Sr117.isCover s (SrCommon.intsToNats ms) (SrCommon.intsToNats js)), [((ms.length + js.length : Nat) : Int)]⟩) rfl (by intro z; cases z) rfl]
  by_cases c : Sr117.isMouldSet s ms = false ∨ Sr117.isMachineSet s js = false
  · rw [if_pos c, if_pos c]; rfl
  · rw [if_neg c, if_neg c]
theorem due_neigh (s : Shop) (ms : List Int) : due s 14 [] [ms] = (s, if Sr117.isMouldSet s ms = false then [-22] else ((Sr117.neighbours s (SrCommon.intsToNats ms)).length : Int) :: SrCommon.natsToInts (Sr117.neighbours s (SrCommon.intsToNats ms))) := by
  rw [due_q (call := .neighbours ms) (r := if Sr117.isMouldSet s ms = false then .ofCode SrCommon.invalidArgument else ⟨((Sr117.neighbours s (SrCommon.intsToNats ms)).length : Int), SrCommon.natsToInts (Sr117.neighbours s (SrCommon.intsToNats ms))⟩) rfl (by intro z; cases z) rfl]
  by_cases c : Sr117.isMouldSet s ms = false
  · rw [if_pos c, if_pos c]; rfl
  · rw [if_neg c, if_neg c]
theorem due_without (s : Shop) (j : Int) : due s 15 [j] [] = (s, if idx j s.machines.length = false then [-2] else [(Sr117.maxRunning { s with machines := s.machines.eraseIdx j.toNat } : Int)]) := by
  rw [due_q (call := .maxRunningWithout j) (r := if Sr117.isMachine s j = false then .ofCode SrCommon.notFound else Sr117.countResult (Sr117.maxRunning { s with machines := s.machines.eraseIdx j.toNat })) rfl (by intro z; cases z) rfl]
  have e2 : Sr117.isMachine s j = idx j s.machines.length := rfl
  rw [e2]
  by_cases c : idx j s.machines.length = false
  · rw [if_pos c, if_pos c]; rfl
  · rw [if_neg c, if_neg c]; rfl
theorem due_list (s : Shop) : due s 16 [] [] = (s, (s.machines.length : Int) :: (s.machines.flatMap Sr117.ratingValues ++ (s.moulds.length : Int) :: s.moulds.flatMap Sr117.ratingValues)) := by
  rw [due_q (call := .listRatings) (r := ⟨(s.machines.length : Int), s.machines.flatMap Sr117.ratingValues ++ (s.moulds.length : Int) :: s.moulds.flatMap Sr117.ratingValues⟩) rfl (by intro z; cases z) rfl]
/-! ### a query's promise -/
def spQ (CI CC : Addr) (k : Int) : Sp := spOn CI CC (fun n ns xs => n = k ∧ OkCall n ns xs) due
theorem query_end {CI a lm lo : Addr} {H : Hp} {Q : VK} {s : Shop} {n : Int} {ns ans : List Int} {xs : List (List Int)} (I : InstAt CI H a lm lo s) (e : due s n ns xs = (s, ans)) (q : AfterI CI a lm lo (due s n ns xs) H Q) :
    ∀ p H', H p = none → H' p = some (.lst (ans.map V.int)) → Same H H' → Q (.ref p) H' := fun p H' h0 h1 h2 => by
  rw [e] at q
  exact q p H' h0 h1 (I.same h2) (But.of h2)
theorem ok0 {n : Int} {ns : List Int} {xs : List (List Int)} {a b : Nat} (h : OkCall n ns xs) (e : PySr117.shape n = some (a, b)) : ns.length = a ∧ xs.length = b := by
  have := h.sh
  rw [e] at this
  obtain ⟨e1, e2⟩ := Prod.mk.inj (Option.some.inj this)
  exact ⟨e1.symm, e2.symm⟩
end Mp
/-! Ja -/
set_option Elab.async false
set_option maxRecDepth 100000
set_option maxHeartbeats 2000000
namespace Mp
open PySem PySem.Spec PyProof.Rows L2
open Sr117 (Shop Rating)
/-! ### len(set(xs)), xs whole numbers, some of them twice -/
def distinct (ns : List Int) : List Int := PyProof.Rows.firstMet (fun i => ns.getD i 0) ns.length
theorem distinct_le (ns : List Int) : (distinct ns).length ≤ ns.length := PyProof.Rows.firstMet_length_le _ _
theorem range_take (ns : List Int) : ∀ i, i ≤ ns.length → (List.range i).map (fun i => ns.getD i 0) = ns.take i
  | 0, _ => rfl
  | i + 1, h => by
    rw [List.range_succ, List.map_append, range_take ns i (by omega), List.take_add_one, List.getElem?_eq_getElem h, List.map_singleton, List.getD_eq_getElem?_getD, List.getElem?_eq_getElem h]
    rfl
theorem firstMet_len (ns : List Int) : ∀ i, i ≤ ns.length → ((PyProof.Rows.firstMet (fun i => ns.getD i 0) i).length = i ↔ (ns.take i).Nodup)
  | 0, _ => by simp [PyProof.Rows.firstMet_zero]
  | i + 1, h => by
    have ih := firstMet_len ns i (by omega)
    have hle := PyProof.Rows.firstMet_length_le (fun i => ns.getD i 0) i
    have ha := PyProof.Rows.firstMet_any (fun i => ns.getD i 0) i (ns.getD i 0)
    rw [range_take ns i (by omega)] at ha
    have et : ns.take (i + 1) = ns.take i ++ [ns.getD i 0] := by
      rw [List.take_add_one, List.getElem?_eq_getElem h, List.getD_eq_getElem?_getD, List.getElem?_eq_getElem h]
      rfl
    rw [PyProof.Rows.firstMet_succ, et, List.nodup_append]
    unfold PyProof.Rows.step_dedup
    by_cases c : ((PyProof.Rows.firstMet (fun i => ns.getD i 0) i).any (· == ns.getD i 0)) = true
    · rw [if_pos c]
      rw [c] at ha
      obtain ⟨x, hx, ex⟩ := List.any_eq_true.mp ha.symm
      have ex : x = ns.getD i 0 := eq_of_beq ex
      constructor
      · intro z; omega
      · intro z
        exact absurd ex (z.2.2 x hx _ (List.mem_singleton_self _))
    · rw [if_neg c, List.length_append, List.length_singleton]
      have c' := Bool.eq_false_iff.mpr c
      rw [c'] at ha
      have no : ∀ x ∈ ns.take i, x ≠ ns.getD i 0 := fun x hx e => by
        have := List.any_eq_false.mp ha.symm x hx
        exact this (by rw [e]; exact beq_self_eq_true _)
      constructor
      · intro z
        exact ⟨ih.mp (by omega), by simp, fun a ha b hb => by rw [List.mem_singleton.mp hb]; exact no a ha⟩
      · intro z
        have := ih.mpr z.1
        omega
theorem distinct_iff (ns : List Int) : (distinct ns).length = ns.length ↔ ns.Nodup := by
  have := firstMet_len ns ns.length (Nat.le_refl _)
  rw [List.take_length] at this
  exact this
theorem intsV : ∀ {ns : List Int} {us : List Value}, Vals (ns.map V.int) us → PyProof.Rows.IntsAre us ns
  | [], _, .nil => .nil
  | n :: ns, _, .cons r t => by
    obtain ⟨k, rfl⟩ := r
    exact .cons n k (intsV t)
def tLenSetD (K : PySem.W.Frag) (ta : TE) : TE := fun σ H Q => ta σ H fun x H1 => ∃ (l : Addr) (ns : List Int), x = .ref l ∧ SqL K H1 l (ns.map V.int) ∧ ns.length ≤ 4000 ∧ Q (.int ((distinct ns).length : Nat)) H1
theorem pe_lenSetD {X : Cx} {a : Expr} {ta : TE} {p p2 q pos : Pos} (hg : Gl X "len") (hm : X.mg "len" = none) (hg2 : Gl X "set") (hm2 : X.mg "set" = none) (ha : PE X a ta) (hc : X.calm = true := by rfl)
    (na : starEach [a] X.env = (false, eval a X.env) :: starEach [] X.env := by rfl) : PE X (.Call (.Name "len" p) [.Call (.Name "set" p2) [a] [] q] [] pos) (tLenSetD X.K ta) := by
  constructor
  intro pins s σ H Q I h
  refine Call_ (ld_blt I hg hm boot_len (PyProof.Rows.callWith_builtin1 (PyProof.Rows.args_cons (Call_ (ld_blt I hg2 hm2 boot_set
    (PyProof.Rows.callWith_type1 (PyProof.Rows.args_cons (thn (ha.run pins s σ H _ I h) ?arg) na) na rfl))) rfl) rfl rfl))
  rintro v t ⟨x, G, J, rx, l, ns, ex, hq, few, q⟩
  subst ex
  have ev : v = .ref l := rx
  subst ev
  obtain ⟨vs, hv, pl, _⟩ := J.list hq
  have sz : vs.toArray.size = ns.length := by
    have := hv.length
    rw [List.length_map] at this
    rw [List.size_toArray, ← this]
  have bound : vs.toArray.size + 1 < scanBound := by
    show _ < (_ : Nat)
    unfold scanBound
    omega
  have areI : PyProof.Rows.IntsAre vs.toArray.toList ns := by
    rw [List.toList_toArray]
    exact intsV hv
  refine PyProof.Rows.args_nil (call_set_list (J.ok.hd hc) pl.isList areI bound ?set)
  intro h2 tk made kept
  rw [sz] at made
  have same : L2.Inv X pins σ G { t with heap := h2, toks := tk } := J.kept fun b o e => kept b o (Heap.lt_size e) e
  obtain ⟨o, es, ep, tb, m1, m2, m3, _, _, _, m4, m5⟩ := made
  have nz : (PyProof.Rows.firstMet (fun i => ns.getD i 0) ns.length).length ≤ 4000 := Nat.le_trans (distinct_le ns) few
  refine PyProof.Rows.args_nil (call_len_set m1 m2 m3 m4 (by rw [m5]; omega) ?_)
  exact ⟨.int ((distinct ns).length : Nat), G, same.tok _, ⟨_, congrArg (fun k : Nat => Value.int (k : Int) _) m5⟩, q⟩
/-! ### small words -/
theorem dec_int {a b : Int} : decide (V.int a = V.int b) = decide (a = b) := decide_eq_decide.mpr ⟨fun h => by cases h; rfl, fun h => by rw [h]⟩
theorem flat_ints : ∀ l : List Int, (l.map V.int).all flatV = true
  | [] => rfl
  | _ :: l => flat_ints l
theorem in_ints (x : Int) : ∀ l : List Int, inV (.int x) (l.map V.int) = l.contains x
  | [] => rfl
  | a :: l => by
    show ((a == x) || inV (.int x) (l.map V.int)) = (x == a || l.contains x)
    rw [in_ints x l, Bool.beq_comm]
theorem natV_ints (l : List Nat) : natV l = (SrCommon.natsToInts l).map V.int := by
  unfold natV SrCommon.natsToInts
  rw [List.map_map]
  rfl
theorem in_nats (x : Nat) : ∀ l : List Nat, inV (.int (x : Int)) (natV l) = l.contains x
  | [] => rfl
  | a :: l => by
    show (((a : Int) == (x : Int)) || inV (.int (x : Int)) (natV l)) = (x == a || l.contains x)
    rw [in_nats x l]
    congr 1
    rw [Bool.eq_iff_iff, beq_iff_eq, beq_iff_eq]
    omega
theorem flat_nats (l : List Nat) : (natV l).all flatV = true := by rw [natV_ints]; exact flat_ints _
theorem natV_len (l : List Nat) : (natV l).length = l.length := List.length_map _
end Mp
/-! Jb -/
set_option Elab.async false
set_option maxRecDepth 100000
set_option maxHeartbeats 4000000
namespace Mp
open PySem PySem.Spec PyProof.Rows L2
open Sr117 (Shop Rating)
abbrev sRun : Stmt := top 30
abbrev sSize : Stmt := top 31
abbrev sValid : Stmt := top 32
/-! ### entries, -1 for a mould that doesn't run -/
def runE (es : List Int) : List Int := es.filter fun x => !decide (x = -1)
theorem runE_app (a b : List Int) : runE (a ++ b) = runE a ++ runE b := List.filter_append ..
theorem runE_le (es : List Int) : (runE es).length ≤ es.length := List.length_filter_le ..
theorem runE_take {es : List Int} {i : Nat} {x : Int} (h : es[i]? = some x) : runE (es.take (i + 1)) = runE (es.take i) ++ (if x = -1 then [] else [x]) := by
  rw [take_more h, runE_app]
  congr 1
  unfold runE
  by_cases c : x = -1
  · rw [if_pos c, c]; rfl
  · rw [if_neg c, List.filter_cons, decide_eq_false c]; rfl
/-- the entries of an assignment, and back -/
theorem used_toA : ∀ es : List Int, (∀ x ∈ es, -1 ≤ x) → usedOf (toA es) = (runE es).map Int.toNat
  | [], _ => rfl
  | x :: es, h => by
    have ih := used_toA es fun y m => h y (List.mem_cons_of_mem _ m)
    have hx := h x (List.mem_cons_self ..)
    by_cases c : x = -1
    · have e1 : toA (x :: es) = none :: toA es := by
        show (if x < 0 then none else some x.toNat) :: toA es = _
        rw [if_pos (by omega)]
      have e2 : runE (x :: es) = runE es := by
        unfold runE
        rw [List.filter_cons, decide_eq_true c]; rfl
      rw [e1, e2, ← ih]
      rfl
    · have e1 : toA (x :: es) = some x.toNat :: toA es := by
        show (if x < 0 then none else some x.toNat) :: toA es = _
        rw [if_neg (by omega)]
      have e2 : runE (x :: es) = x :: runE es := by
        unfold runE
        rw [List.filter_cons, decide_eq_false c]; rfl
      rw [e1, e2, List.map_cons, ← ih]
      rfl
theorem rc_used : ∀ a : Sr117.Assignment, Sr117.runningCount a = (usedOf a).length
  | [] => rfl
  | none :: a => by rw [rc_none, rc_used a]; rfl
  | some j :: a => by rw [rc_some, rc_used a]; rfl
theorem rc_toA {es : List Int} (h : ∀ x ∈ es, -1 ≤ x) : Sr117.runningCount (toA es) = (runE es).length := by
  rw [rc_used, used_toA es h, List.length_map]
theorem toA_get {es : List Int} {k j : Nat} (h : (toA es)[k]? = some (some j)) : ∃ x, es[k]? = some x ∧ 0 ≤ x ∧ x.toNat = j := by
  unfold toA at h
  rw [List.getElem?_map] at h
  cases e : es[k]? with
  | none => rw [e] at h; cases h
  | some x =>
    rw [e] at h
    have h : (if x < 0 then none else some x.toNat) = some j := Option.some.inj h
    by_cases c : x < 0
    · rw [if_pos c] at h; cases h
    · rw [if_neg c] at h
      exact ⟨x, rfl, by omega, Option.some.inj h⟩
theorem get_toA {es : List Int} {k : Nat} {x : Int} (h : es[k]? = some x) (h0 : 0 ≤ x) : (toA es)[k]? = some (some x.toNat) := by
  unfold toA
  rw [List.getElem?_map, h]
  show some (if x < 0 then none else some x.toNat) = _
  rw [if_neg (by omega)]
theorem nodup_toNat : ∀ {l : List Int}, (∀ x ∈ l, 0 ≤ x) → ((l.map Int.toNat).Nodup ↔ l.Nodup)
  | [], _ => by simp
  | a :: l, h => by
    have ih := nodup_toNat (l := l) fun x m => h x (List.mem_cons_of_mem _ m)
    rw [List.map_cons, List.nodup_cons, List.nodup_cons, ih]
    have ha := h a (List.mem_cons_self ..)
    refine ⟨fun z => ⟨fun m => z.1 (List.mem_map.mpr ⟨a, m, rfl⟩), z.2⟩, fun z => ⟨fun m => ?_, z.2⟩⟩
    obtain ⟨b, hb, e⟩ := List.mem_map.mp m
    have := h b (List.mem_cons_of_mem _ hb)
    have e2 : b = a := by omega
    exact z.1 (by rw [← e2]; exact hb)
theorem runE_pos {es : List Int} (h : ∀ x ∈ es, -1 ≤ x) : ∀ x ∈ runE es, 0 ≤ x := fun x m => by
  obtain ⟨h1, h2⟩ := List.mem_filter.mp m
  have := h x h1
  have h3 : x ≠ -1 := by simpa using h2
  omega
/-- check_assignment's word, read off the entries -/
theorem valid_entries {s : Shop} {es : List Int} (hl : es.length = s.moulds.length) (h : ∀ x ∈ es, -1 ≤ x) :
    Sr117.isValidAssignment s (toA es) = true ↔ (runE es).Nodup ∧ ∀ (k : Nat) (x : Int), es[k]? = some x → x ≠ -1 → Sr117.fits s k x.toNat = true := by
  rw [valid_iff, good_iff]
  have e1 : (toA es).length = s.moulds.length := by unfold toA; rw [List.length_map]; exact hl
  have e2 : ((toA es).filterMap fun e => e) = (runE es).map Int.toNat := used_toA es h
  rw [e2, nodup_toNat (runE_pos h)]
  constructor
  · rintro ⟨_, h1, h2, _⟩
    refine ⟨h2, fun k x e c => ?_⟩
    have h0 : 0 ≤ x := by have := h x (List.mem_of_getElem? e); omega
    have := h1 k x.toNat (get_toA e h0)
    rwa [Nat.zero_add] at this
  · rintro ⟨h2, h1⟩
    refine ⟨e1, fun k j e => ?_, h2, by simp⟩
    obtain ⟨x, hx, h0, ej⟩ := toA_get e
    rw [← ej, Nat.zero_add]
    exact h1 k x hx (by omega)
/-! ### promises -/
def spRun (K : PySem.W.Frag) : Sp := fun vs H Q _ => ∃ (a : Addr) (es : List Int), vs = [.ref a] ∧ SqL K H a (es.map V.int) ∧ es.length ≤ 1000 ∧
  ∀ H' p, H p = none → H' p = some (.lst ((runE es).map V.int)) → Same H H' → Q (.ref p) H'
def spSize (K : PySem.W.Frag) : Sp := fun vs H Q _ => ∃ (a : Addr) (es : List Int), vs = [.ref a] ∧ SqL K H a (es.map V.int) ∧ es.length ≤ 1000 ∧
  ∀ H', Same H H' → Q (.int ((runE es).length : Nat)) H'
def spValid (K : PySem.W.Frag) : Sp := fun vs H Q _ => ∃ (a lo lm : Addr) (es : List Int) (s : Shop), vs = [.ref a, .ref lo, .ref lm] ∧ SqL K H a (es.map V.int) ∧ RatL H lo s.moulds ∧ RatL H lm s.machines ∧
  es.length = s.moulds.length ∧ s.moulds.length ≤ 5 ∧ (∀ x ∈ es, -1 ≤ x ∧ x < (s.machines.length : Int)) ∧ ∀ H', Same H H' → Q (.bl (Sr117.isValidAssignment s (toA es))) H'
theorem fits_at {s : Shop} {i j : Nat} {r q : Rating} (hr : s.moulds[i]? = some r) (hq : s.machines[j]? = some q) : Sr117.fits s i j = fit1 r q := by
  have h1 := (List.getElem?_eq_some_iff.mp hr).1
  have h2 := (List.getElem?_eq_some_iff.mp hq).1
  unfold Sr117.fits fit1 Sr117.mouldAt Sr117.machineAt
  rw [decide_eq_true h1, decide_eq_true h2, List.getD_eq_getElem?_getD, hr, List.getD_eq_getElem?_getD, hq]
  rfl
section
variable {P : Program} {w : World} {K : PySem.W.Frag} {mg : Str → Option Value} {base : Heap} {f : Addr} {fd : FuncData}
theorem scRu : FnScope ["entries", "entry"] ["entries"] (defScope sRun) := ⟨rfl, rfl, rfl, by decide +kernel, rfl, by decide +kernel, by decide +kernel⟩
theorem ok_run (F : Fun K "running_machines" "running_machines" sRun f fd) (m1 : Num mg "NOT_RUNNING" (-1)) : FnOk P w K mg base CX0 1 f fd ["entries"] (spRun K) := by
  refine F.ok scRu (fun vs H Q E h => ?_) (fun cdv A outer s H vs Q E hr h => ?_)
  · obtain ⟨a, es, rfl, _⟩ := h
    rfl
  obtain ⟨a, es, rfl, ha, h1, k⟩ := h
  refine ⟨_, pss_one (ps_ret (pe_lc (own := [("entry", 1)]) (g := gName 1) (tt := tTest (tOp rNe (tVar 1) (tC (.int (-1))))) (te := tVar 1) rfl scRu.nd (pi_list (pv 0)) (blkOk_by (own := [("entry", 1)]) (N := ["entries", "entry"]) (sc := defScope sRun) (by decide +kernel))
    (fun _ _ _ _ _ => pg_name (i := 1) scRu.nd rfl (Or.inl rfl)) (fun _ _ _ _ _ => pts_one (pt_cmpR op_ne (pv 1) (pe_num m1) (nomark _))) (fun _ _ _ _ _ => pv 1))), ?_⟩
  refine ⟨_, rfl, a, rfl, ⟨_, ha⟩, fun D hD => ?_⟩
  refine lc_list (K := K) (a := a) (xs := es.map V.int) (fun i H' => Same H H' ∧ H' D = some (.lst ((runE (es.take i)).map V.int))) ⟨same_new hD _, upd_same⟩ (fun i H' _ z => z.1.seq ha) ?_ ?_
  · rintro i x H' hi ⟨s1, d1⟩
    rw [List.getElem?_map] at hi
    obtain ⟨e, he, rfl⟩ := Option.map_eq_some_iff.mp hi
    have hi' : i < es.length := (List.getElem?_eq_some_iff.mp he).1
    refine ⟨rfl, _, rfl, rfl, _, rfl, ?_⟩
    rw [dec_int]
    refine ite_bool (fun c => ?_) (fun c => ?_)
    · have c' : ¬ e = -1 := by simpa using c
      refine ⟨_, rfl, _, d1, small1000 (by have := runE_le (es.take i); rw [List.length_map]; rw [List.length_take] at this; omega), ?_, ?_⟩
      · intro b o e
        rw [upd_ne (ne_of_none e hD)]
        exact s1 _ _ e
      · rw [upd_same, runE_take he, if_neg c', List.map_append]
        rfl
    · have c' : e = -1 := by simpa using c
      refine ⟨s1, ?_⟩
      rw [runE_take he, if_pos c', List.append_nil]
      exact d1
  · rintro H' ⟨s1, d1⟩
    rw [List.length_map, List.take_length] at d1
    exact k H' D hD d1 s1
theorem scSi : FnScope ["entries"] ["entries"] (defScope sSize) := ⟨rfl, rfl, rfl, by decide +kernel, rfl, by decide +kernel, by decide +kernel⟩
theorem ok_size (F : Fun K "assignment_size" "assignment_size" sSize f fd) (ml : mg "len" = none) (D1 : Def P w K mg base 1 "running_machines" ["entries"] (spRun K)) : FnOk P w K mg base CX0 2 f fd ["entries"] (spSize K) := by
  refine F.ok scSi (fun vs H Q E h => ?_) (fun cdv A outer s H vs Q E hr h => ?_)
  · obtain ⟨a, es, rfl, _⟩ := h
    rfl
  obtain ⟨a, es, rfl, ha, h1, k⟩ := h
  refine ⟨_, pss_one (ps_ret (pe_callB call_len_seq rfl ml PySem.boot_len (pa_cons (pe_callD D1 hr (pa_cons (pv 0) pa_nil)) pa_nil))), ?_⟩
  refine ⟨_, rfl, a, es, rfl, ha, h1, fun H' p hp0 hp s1 => ?_⟩
  refine ⟨p, _, rfl, .inl (SqL.of hp), ?_⟩
  rw [List.length_map]
  exact k H' s1
theorem scVa : FnScope ["entries", "moulds", "machines", "running", "i", "j"] ["entries", "moulds", "machines"] (defScope sValid) := ⟨rfl, rfl, rfl, by decide +kernel, rfl, by decide +kernel, by decide +kernel⟩
theorem ok_valid (F : Fun K "is_valid" "is_valid" sValid f fd) (ml : mg "len" = none) (ms : mg "set" = none) (me : mg "enumerate" = none) (m1 : Num mg "NOT_RUNNING" (-1))
    (D1 : Def P w K mg base 1 "running_machines" ["entries"] (spRun K)) (D2 : Def P w K mg base 1 "fits" ["mould", "machine"] spFits) : FnOk P w K mg base CX0 2 f fd ["entries", "moulds", "machines"] (spValid K) := by
  refine F.ok scVa (fun vs H Q E h => ?_) (fun cdv A outer s H vs Q E hr h => ?_)
  · obtain ⟨a, lo, lm, es, s, rfl, _⟩ := h
    rfl
  obtain ⟨a, lo, lm, es, sh, rfl, ha, ho, hm, hl, o5, hx, k⟩ := h
  refine ⟨_, pss_cons (ps_set (i := 3) scVa.nd rfl (Or.inl rfl) (pe_callD D1 hr (pa_cons (pv 0) pa_nil)))
    (pss_cons (ps_if (pt_cmpR op_lt (pe_lenSetD rfl ml rfl ms (pv 3)) (pe_callB call_len_seq rfl ml PySem.boot_len (pa_cons (pv 3) pa_nil)) (nomark _)) (pss_one (ps_ret pe_bl)) pss_nil)
    (pss_cons (ps_for PassesOwn.never rfl (pi_enum (by rfl) me (pa_cons (pv 0) pa_nil)) (pg_tup rfl (pgs_cons (pg_name (i := 4) scVa.nd rfl (Or.inl rfl)) (pgs_cons (pg_name (i := 5) scVa.nd rfl (Or.inl rfl)) pgs_nil)))
      (pss_one (ps_if (PW.pt (pw_and (pt_cmpR op_ne (pv 5) (pe_num m1) (nomark _)) (pw_and1 (pt_not (pt_val (pe_callD D2 hr (pa_cons (pe_ix ix_list (pv 1) (pv 4) (fun _ _ => rfl)) (pa_cons (pe_ix ix_list (pv 2) (pv 5) (fun _ _ => rfl)) pa_nil)))))))) (pss_one (ps_ret pe_bl)) pss_nil)))
    (pss_one (ps_ret pe_bl)))), ?_⟩
  obtain ⟨ts, htl, hts⟩ := id ho
  obtain ⟨us, hul, hus⟩ := id hm
  have hge : ∀ x ∈ es, -1 ≤ x := fun x m => (hx x m).1
  have vi := valid_entries hl hge
  refine ⟨_, rfl, a, es, rfl, ha, by omega, fun H1 p hp0 hp s1 => ?_⟩
  refine ⟨_, rfl, p, _, rfl, SqL.of hp, (by have := runE_le es; omega), _, rfl, p, _, rfl, .inl (SqL.of hp), _, _, rfl, rfl, _, rfl, ?_⟩
  rw [List.length_map]
  have hdl := distinct_le (runE es)
  have hdi := distinct_iff (runE es)
  refine ite_bool (fun c => ?_) (fun c => ?_)
  · have c' := of_decide_eq_true c
    have e : Sr117.isValidAssignment sh (toA es) = false := by
      cases z : Sr117.isValidAssignment sh (toA es) with
      | false => rfl
      | true =>
        have := hdi.mpr (vi.mp z).1
        omega
    rw [e] at k
    exact k H1 s1
  · have c' := of_decide_eq_false c
    have nd : (runE es).Nodup := hdi.mp (by omega)
    have ha1 := s1.seq ha
    refine ⟨_, rfl, a, _, rfl, ha1, ?_⟩
    refine for_it (walk_enum (K := K) (a := a) (xs := es.map V.int)) (fun i σ H' => ∃ v4 v5 : Option V, σ = [some (.ref a), some (.ref lo), some (.ref lm), some (.ref p), v4, v5] ∧ Same H H' ∧ ∀ (k : Nat) (x : Int), k < i → es[k]? = some x → x ≠ -1 → Sr117.fits sh k x.toNat = true)
      ⟨_, _, rfl, s1, fun k x z => absurd z (Nat.not_lt_zero k)⟩ (fun i σ H' _ z => by obtain ⟨_, _, _, s2, _⟩ := z; exact s2.seq ha) ?_ ?_
    · rintro i x σ H' H'' hi ⟨v4, v5, rfl, s2, hp2⟩ ⟨T, y1, y2, rfl, hT, rfl, e1, e2⟩
      cases e1
      have e2 : (es.map V.int)[i]? = some y2 := e2
      rw [List.getElem?_map] at e2
      obtain ⟨j, hj, rfl⟩ := Option.map_eq_some_iff.mp e2
      have hi' : i < es.length := by rw [List.length_map] at hi; exact hi
      have s3 := s2.trans (same_new hT (.tup [.int (i : Nat), .int j]))
      refine ⟨T, _, rfl, seqT_new, rfl, _, _, rfl, _, _, rfl, rfl, ?_⟩
      refine ⟨_, rfl, rfl, _, rfl, ?_⟩
      rw [dec_int]
      have nxt : (j ≠ -1 → Sr117.fits sh i j.toNat = true) → ∀ (k : Nat) (x : Int), k < i + 1 → es[k]? = some x → x ≠ -1 → Sr117.fits sh k x.toNat = true := fun hj2 k x hk ek hx2 => by
        by_cases c2 : k < i
        · exact hp2 k x c2 ek hx2
        · have : k = i := by omega
          subst this
          rw [hj] at ek
          cases ek
          exact hj2 hx2
      refine ite_bool (fun c2 => ?_) (fun c2 => ?_)
      · have c2' : ¬ j = -1 := by simpa using c2
        have hjr := hx j (List.mem_of_getElem? hj)
        obtain ⟨r, hr1⟩ := get_some (xs := sh.moulds) (i := i) (by omega)
        obtain ⟨q1, hr2⟩ := get_some (xs := sh.machines) (i := j.toNat) (by omega)
        obtain ⟨t, ht1, ht2⟩ := hts.get hr1
        obtain ⟨u, hu1, hu2⟩ := hus.get hr2
        refine ⟨_, rfl, _, rfl, lo, _, _, .ref t, rfl, rfl, SqL.of (s3 _ _ htl), atI_nat (by rw [List.getElem?_map, ht1]; rfl), _, rfl, _, rfl, lm, _, _, .ref u, rfl, rfl, SqL.of (s3 _ _ hul), atI_of (by omega) (by rw [List.getElem?_map, hu1]; rfl), t, u, r, q1, rfl, s3 _ _ ht2, s3 _ _ hu2, _, rfl, ?_⟩
        rw [← fits_at hr1 hr2]
        refine ite_bool (fun c3 => ?_) (fun c3 => ?_)
        · have c3' := of_not_t c3
          have e : Sr117.isValidAssignment sh (toA es) = false := by
            cases z : Sr117.isValidAssignment sh (toA es) with
            | false => rfl
            | true =>
              have := (vi.mp z).2 i j hj c2'
              rw [c3'] at this
              cases this
          rw [e] at k
          exact k _ s3
        · have c3' := of_not_f c3
          exact ⟨_, _, rfl, s3, nxt fun _ => c3'⟩
      · have c2' : j = -1 := by simpa using c2
        exact ⟨_, _, rfl, s3, nxt fun z => absurd c2' z⟩
    · rintro σ H' ⟨v4, v5, rfl, s2, hp2⟩
      have e : Sr117.isValidAssignment sh (toA es) = true := vi.mpr ⟨nd, fun k x ek hx2 => hp2 k x (by rw [List.length_map]; exact (List.getElem?_eq_some_iff.mp ek).1) ek hx2⟩
      rw [e] at k
      exact k _ s2
end
end Mp
/-! Jb2 -/
set_option Elab.async false
set_option maxRecDepth 100000
set_option maxHeartbeats 4000000
namespace Mp
open PySem PySem.Spec PyProof.Rows L2
open Sr117 (Shop Rating)
abbrev sLarge : Stmt := top 33
abbrev sNextE : Stmt := top 34
abbrev sBestA : Stmt := top 35
/-! ### slices -/
theorem cut_from {xs : List V} {k : Nat} (h : k ≤ xs.length) : cutV xs (some (k : Int)) none = xs.drop k := by
  unfold cutV
  rw [HT.sIx_nat, HT.sIx_none, Nat.min_eq_left h]
  exact List.take_of_length_le (by rw [List.length_drop]; exact Nat.le_refl _)
theorem cut_to {xs : List V} {k : Nat} (h : k ≤ xs.length) : cutV xs none (some (k : Int)) = xs.take k := by
  unfold cutV
  rw [HT.sIx_nat, HT.sIx_none, Nat.min_eq_left h]
  rfl
theorem RatLs.drop {H : Hp} {ts : List Addr} {rs : List Rating} (h : RatLs H ts rs) : ∀ i, RatLs H (ts.drop i) (rs.drop i) := by
  induction h with
  | nil => intro i; rw [List.drop_nil, List.drop_nil]; exact .nil
  | cons b c ih => intro i; cases i with
    | zero => exact .cons b c
    | succ i => exact ih i
theorem RatLs.take {H : Hp} {ts : List Addr} {rs : List Rating} (h : RatLs H ts rs) : ∀ i, RatLs H (ts.take i) (rs.take i) := by
  induction h with
  | nil => intro i; rw [List.take_nil, List.take_nil]; exact .nil
  | cons b c ih => intro i; cases i with
    | zero => exact .nil
    | succ i => exact .cons b (ih i)
theorem RatLs.app {H : Hp} {ts us : List Addr} {rs qs : List Rating} (h : RatLs H ts rs) (g : RatLs H us qs) : RatLs H (ts ++ us) (rs ++ qs) := by
  induction h with
  | nil => exact g
  | cons b c ih => exact .cons b ih
/-! ### an assignment's entries -/
def encO : Option Nat → Int
  | none => -1
  | some j => (j : Int)
abbrev enc (p : Sr117.Assignment) : List Int := Sr117.encodeAssignment p
theorem enc_cons (o : Option Nat) (p : Sr117.Assignment) : enc (o :: p) = encO o :: enc p := by
  cases o <;> rfl
theorem enc_app (p : Sr117.Assignment) (o : Option Nat) : enc (p ++ [o]) = enc p ++ [encO o] := by
  show List.map _ (p ++ [o]) = List.map _ p ++ _
  rw [List.map_append]
  cases o <;> rfl
theorem enc_len (p : Sr117.Assignment) : (enc p).length = p.length := List.length_map _
theorem runE_enc : ∀ p : Sr117.Assignment, runE (enc p) = (usedOf p).map fun (j : Nat) => (j : Int)
  | [] => rfl
  | none :: p => runE_enc p
  | some j :: p => by
    have e : runE (enc (some j :: p)) = (j : Int) :: runE (enc p) := by
      rw [enc_cons]
      unfold runE
      rw [List.filter_cons, show decide (encO (some j) = -1) = false from decide_eq_false (by show ¬ (j : Int) = -1; omega)]
      rfl
    rw [e, runE_enc p]
    rfl
theorem enc_size (p : Sr117.Assignment) : (runE (enc p)).length = Sr117.runningCount p := by
  rw [runE_enc, List.length_map, rc_used]
theorem enc_has (j : Nat) : ∀ p : Sr117.Assignment, (enc p).contains (j : Int) = (usedOf p).contains j
  | [] => rfl
  | none :: p => by
    rw [enc_cons]
    show (((j : Int) == (-1 : Int)) || (enc p).contains (j : Int)) = (usedOf p).contains j
    have e : ((j : Int) == (-1 : Int)) = false := beq_eq_false_iff_ne.mpr (by omega)
    rw [e, Bool.false_or, enc_has j p]
  | some k :: p => by
    rw [enc_cons]
    show (((j : Int) == (k : Int)) || (enc p).contains (j : Int)) = ((j == k) || (usedOf p).contains j)
    rw [enc_has j p]
    congr 1
    rw [Bool.eq_iff_iff, beq_iff_eq, beq_iff_eq]
    omega
/-! ### promises -/
def spLarge (K : PySem.W.Frag) : Sp := fun vs H Q _ => ∃ (a lo lm : Addr) (p : Sr117.Assignment) (s : Shop), vs = [.ref a, .ref lo, .ref lm] ∧ SqL K H a ((enc p).map V.int) ∧ RatL H lo s.moulds ∧ RatL H lm s.machines ∧
  p.length ≤ s.moulds.length ∧ s.moulds.length ≤ 5 ∧ s.machines.length ≤ 5 ∧ ∀ H', Same H H' → Q (.int (ext s p : Nat)) H'
def spNextE : Sp := fun vs H Q _ => ∃ (a lo lm : Addr) (p : Sr117.Assignment) (s : Shop) (z : Nat), vs = [.ref a, .int (z : Int), .ref lo, .ref lm] ∧ H a = some (.lst ((enc p).map V.int)) ∧ RatL H lo s.moulds ∧ RatL H lm s.machines ∧
  p.length < s.moulds.length ∧ s.moulds.length ≤ 5 ∧ s.machines.length ≤ 5 ∧ ∀ H', Same H H' → Q (.int (encO (nextOf s z p))) H'
def spBestA : Sp := fun vs H Q _ => ∃ (lo lm : Addr) (s : Shop), vs = [.ref lo, .ref lm] ∧ RatL H lo s.moulds ∧ RatL H lm s.machines ∧ s.moulds.length ≤ 5 ∧ s.machines.length ≤ 5 ∧
  ∀ H' p, H p = none → H' p = some (.lst ((enc (Sr117.bestAssignment s)).map V.int)) → Same H H' → Q (.ref p) H'
section
variable {P : Program} {w : World} {K : PySem.W.Frag} {mg : Str → Option Value} {base : Heap} {f : Addr} {fd : FuncData}
theorem scLa : FnScope ["entries", "moulds", "machines", "free", "j", "machine"] ["entries", "moulds", "machines"] (defScope sLarge) := ⟨rfl, rfl, rfl, by decide +kernel, rfl, by decide +kernel, by decide +kernel⟩
theorem ok_large (F : Fun K "largest_size_with" "largest_size_with" sLarge f fd) (ml : mg "len" = none) (me : mg "enumerate" = none)
    (D1 : Def P w K mg base 2 "assignment_size" ["entries"] (spSize K)) (D2 : Def P w K mg base 7 "count_running" ["moulds", "machines"] spCount) : FnOk P w K mg base CX0 8 f fd ["entries", "moulds", "machines"] (spLarge K) := by
  refine F.ok scLa (fun vs H Q E h => ?_) (fun cdv A outer s H vs Q E hr h => ?_)
  · obtain ⟨a, lo, lm, p, s, rfl, _⟩ := h
    rfl
  obtain ⟨a, lo, lm, p, sh, rfl, ha, ho, hm, hl, o5, m5, k⟩ := h
  refine ⟨_, pss_cons (ps_setLc (i := 3) (own := [("j", 4), ("machine", 5)]) (g := gTup K 2 (gCons (gName 4) (gCons (gName 5) gNil))) (tt := tTest (tOp (rIn K true) (tVar 4) (tVar 0))) (te := tVar 5) rfl scLa.nd rfl rfl (sw_true rfl rfl rfl (by decide +kernel)) (pi_enum (by rfl) me (pa_cons (pv 2) pa_nil)) (blkOk_by (own := [("j", 4), ("machine", 5)]) (N := ["entries", "moulds", "machines", "free", "j", "machine"]) (sc := defScope sLarge) (by decide +kernel))
      (fun _ _ _ _ _ => pg_tup rfl (pgs_cons (pg_name (i := 4) scLa.nd rfl (Or.inl rfl)) (pgs_cons (pg_name (i := 5) scLa.nd rfl (Or.inl rfl)) pgs_nil)))
      (fun _ _ _ _ _ => pts_one (pt_cmpR op_notIn_seq (pv 4) (pv 0) (by rfl)))
      (fun _ _ _ _ _ => pv 5))
    (pss_one (ps_ret (pe_op op_add (pe_callD D1 (hr.mono (by decide)) (pa_cons (pv 0) pa_nil)) (pe_callD D2 hr (pa_cons (pe_slice sl_list (pv 1) (po_some (pe_callB call_len_seq rfl ml PySem.boot_len (pa_cons (pv 0) pa_nil))) po_none) (pa_cons (pv 3) pa_nil)))))), ?_⟩
  obtain ⟨ts, htl, hts⟩ := id ho
  obtain ⟨us, hul, hus⟩ := id hm
  have hlen := hus.len
  have hll : (us.map V.ref).length = sh.machines.length := by rw [List.length_map, hlen]
  refine ⟨_, rfl, lm, _, rfl, SqL.of hul, fun D hD => ?_⟩
  refine lc_it (walk_enum (K := K) (a := lm) (xs := us.map V.ref)) (fun i H' => Same H H' ∧ ∃ fs : List Addr, H' D = some (.lst (fs.map V.ref)) ∧ RatLs H fs (((List.range i).filter fun j => !(usedOf p).contains j).map (Sr117.machineAt sh))) ⟨same_new hD _, [], upd_same, .nil⟩ (fun i H' _ z => SqL.of (z.1 _ _ hul)) ?_ ?_
  · rintro i x H' H'' hi ⟨s1, fs, d1, d2⟩ ⟨T, y1, y2, rfl, hT, rfl, e1, e2⟩
    cases e1
    have e2 : (us.map V.ref)[i]? = some y2 := e2
    rw [List.getElem?_map] at e2
    obtain ⟨u, hu, rfl⟩ := Option.map_eq_some_iff.mp e2
    have hi' : i < sh.machines.length := by rw [hll] at hi; exact hi
    obtain ⟨q, hq⟩ := get_some hi'
    obtain ⟨u', hu', rt⟩ := hus.get hq
    rw [hu] at hu'
    cases hu'
    have em : Sr117.machineAt sh i = q := by
      unfold Sr117.machineAt
      rw [List.getD_eq_getElem?_getD, hq]
      rfl
    have s2 := s1.trans (same_new hT (.tup [.int (i : Nat), .ref u]))
    have DT : D ≠ T := ne_of_none d1 hT
    refine ⟨T, _, rfl, seqT_new, rfl, _, _, rfl, _, _, rfl, rfl, rfl, ?_⟩
    refine ⟨_, rfl, _, rfl, a, _, rfl, .inl (s2.seq ha), rfl, flat_ints _, ?_⟩
    rw [in_ints, enc_has]
    rw [List.range_succ, List.filter_append]
    refine ⟨_, rfl, ?_⟩
    refine ite_bool (fun c => ?_) (fun c => ?_)
    · have c' : (!(usedOf p).contains i) = true := c
      have ef : List.filter (fun j => !(usedOf p).contains j) [i] = [i] := by
        rw [List.filter_cons, c']; rfl
      rw [ef, List.map_append]
      have := d2.len
      refine ⟨_, rfl, _, by rw [upd_ne DT]; exact d1, small1000 ?_, ?_⟩
      · rw [List.length_map, this, List.length_map]
        have := List.length_filter_le (fun j => !(usedOf p).contains j) (List.range i)
        rw [List.length_range] at this
        omega
      · refine ⟨fun b o e => by rw [upd_ne (ne_of_none e hD)]; exact s2 b o e, fs ++ [u], ?_, ?_⟩
        · rw [upd_same, List.map_append]; rfl
        · refine d2.add ?_
          rw [em]; exact rt
    · have c' : (!(usedOf p).contains i) = false := c
      have ef : List.filter (fun j => !(usedOf p).contains j) [i] = [] := by
        rw [List.filter_cons, c']; rfl
      rw [ef, List.append_nil]
      exact ⟨s2, fs, by rw [upd_ne DT]; exact d1, d2⟩
  · rintro H1 ⟨s1, fs, d1, d2⟩
    rw [hll] at d2
    refine ⟨_, rfl, a, enc p, rfl, s1.seq ha, by rw [enc_len]; omega, fun H2 s2 => ?_⟩
    have s12 := s1.trans s2
    refine ⟨_, rfl, _, rfl, a, _, rfl, .inl (s12.seq ha), _, rfl, lo, _, rfl, SqL.of (s12 _ _ htl), fun l hl0 => ?_⟩
    rw [List.length_map, enc_len, cut_from (by rw [List.length_map, hts.len]; exact hl), ← List.map_drop]
    have s3 := s12.trans (same_new hl0 (.lst ((ts.drop p.length).map V.ref)))
    have Dl : D ≠ l := ne_of_none (s2 _ _ d1) hl0
    refine ⟨_, rfl, l, D, sub sh p, rfl, ⟨ts.drop p.length, upd_same, (hts.drop _).keep fun b xs e => s3 _ _ e⟩, ⟨fs, by rw [upd_ne Dl]; exact s2 _ _ d1, d2.keep fun b xs e => s3 _ _ e⟩, ?_, ?_, fun H3 s4 => ?_⟩
    · rw [sub_len]; omega
    · show ((freeIx sh p).map (Sr117.machineAt sh)).length ≤ 5
      rw [List.length_map]
      have := List.length_filter_le (fun j => !(usedOf p).contains j) (List.range sh.machines.length)
      rw [List.length_range] at this
      unfold freeIx
      omega
    · refine ⟨_, _, rfl, rfl, ?_⟩
      have e : ((runE (enc p)).length : Int) + (Sr117.maxRunning (sub sh p) : Int) = ((ext sh p : Nat) : Int) := by
        rw [enc_size]
        unfold ext
        omega
      have kk := k H3 (s3.trans s4)
      rw [← e] at kk
      exact kk
theorem scNE : FnScope ["entries", "size", "moulds", "machines", "j"] ["entries", "size", "moulds", "machines"] (defScope sNextE) := ⟨rfl, rfl, rfl, by decide +kernel, rfl, by decide +kernel, by decide +kernel⟩
theorem ok_nextE (F : Fun K "next_best_entry" "next_best_entry" sNextE f fd) (ml : mg "len" = none) (m1 : Num mg "NOT_RUNNING" (-1))
    (D1 : Def P w K mg base 2 "fitting_machines" ["mould", "machines"] spFitM) (D2 : Def P w K mg base 8 "largest_size_with" ["entries", "moulds", "machines"] (spLarge K)) : FnOk P w K mg base CX0 9 f fd ["entries", "size", "moulds", "machines"] spNextE := by
  refine F.ok scNE (fun vs H Q E h => ?_) (fun cdv A outer s H vs Q E hr h => ?_)
  · obtain ⟨a, lo, lm, p, s, z, rfl, _⟩ := h
    rfl
  obtain ⟨a, lo, lm, p, sh, z, rfl, ha, ho, hm, hl, o5, m5, k⟩ := h
  refine ⟨_, pss_cons (ps_for PassesOwn.never rfl (pi_list (pe_callD D1 (hr.mono (by decide)) (pa_cons (pe_ix ix_list (pv 2) (pe_callB call_len_seq rfl ml PySem.boot_len (pa_cons (pv 0) pa_nil)) (fun _ _ => rfl)) (pa_cons (pv 3) pa_nil)))) (pg_name (i := 4) scNE.nd rfl (Or.inl rfl))
      (pss_one (ps_if (PW.pt (pw_and (pt_cmpR op_notIn_seq (pv 4) (pv 0) (by rfl)) (pw_and1 (pt_cmpR op_eq (pe_callD D2 hr (pa_cons (pe_op op_cat (pv 0) (pe_lst (pa_cons (pv 4) pa_nil))) (pa_cons (pv 2) (pa_cons (pv 3) pa_nil)))) (pv 1) (nomark _))))) (pss_one (ps_ret (pv 4))) pss_nil)))
    (pss_one (ps_ret (pe_num m1))), ?_⟩
  obtain ⟨ts, htl, hts⟩ := id ho
  obtain ⟨r, hr1⟩ := get_some hl
  obtain ⟨t, ht1, ht2⟩ := hts.get hr1
  refine ⟨_, rfl, _, rfl, a, _, rfl, .inl (SqL.of ha), ?_⟩
  rw [List.length_map, enc_len]
  refine ⟨lo, _, _, .ref t, rfl, rfl, SqL.of htl, atI_nat (by rw [List.getElem?_map, ht1]; rfl), _, rfl, t, lm, r, sh.machines, rfl, ht2, hm, m5, fun H1 L hL0 hL s1 => ?_⟩
  have ef : fitFrom r 0 sh.machines = fitM sh p.length := by
    rw [fitM_is sh hl, List.getD_eq_getElem?_getD, hr1]
    rfl
  rw [ef] at hL
  refine ⟨L, rfl, ⟨_, SqL.of hL⟩, ?_⟩
  refine for_list (K := K) (a := L) (xs := natV (fitM sh p.length)) (fun i σ H' => ∃ v : Option V, σ = [some (.ref a), some (.int (z : Int)), some (.ref lo), some (.ref lm), v] ∧ Same H1 H' ∧ ((fitM sh p.length).take i).find? (okNext sh z p) = none)
    ⟨_, rfl, fun _ _ e => e, rfl⟩ (fun i σ H' _ q => by obtain ⟨_, _, s2, _⟩ := q; exact SqL.of (s2 _ _ hL)) ?_ ?_
  · rintro i x σ H' hx ⟨v, rfl, s2, hn⟩
    unfold natV at hx
    rw [List.getElem?_map] at hx
    obtain ⟨j, hj, rfl⟩ := Option.map_eq_some_iff.mp hx
    have s12 := s1.trans s2
    have htk := take_more hj
    refine ⟨_, rfl, _, rfl, a, _, rfl, .inl (SqL.of (s12 _ _ ha)), rfl, flat_ints _, ?_⟩
    rw [in_ints, enc_has]
    refine ⟨_, rfl, ?_⟩
    have no : okNext sh z p j = false → ((fitM sh p.length).take (i + 1)).find? (okNext sh z p) = none := fun c => by
      rw [htk, List.find?_append, hn, List.find?_cons_of_neg (by rw [c]; exact Bool.false_ne_true)]
      rfl
    refine ite_bool (fun c => ?_) (fun c => ?_)
    · have c' : (!(usedOf p).contains j) = true := c
      refine ⟨_, rfl, _, rfl, (by show 1 ≤ sizeLine; decide), fun q hq => ?_⟩
      have s3 := s12.trans (same_new hq (.lst [.int (j : Int)]))
      refine ⟨a, q, _, _, rfl, rfl, s3 _ _ ha, upd_same, small (by rw [List.length_map, enc_len]; show p.length + 1 ≤ 1000; omega), fun b hb => ?_⟩
      have s4 := s3.trans (same_new hb (.lst ((enc p).map V.int ++ [V.int (j : Int)])))
      have ee : (enc p).map V.int ++ [V.int (j : Int)] = (enc (p ++ [some j])).map V.int := by
        rw [enc_app, List.map_append]; rfl
      rw [ee] at s4 ⊢
      refine ⟨_, rfl, _, rfl, b, lo, lm, p ++ [some j], sh, rfl, SqL.of upd_same, ho.same s4, hm.same s4, by rw [List.length_append]; exact hl, o5, m5, fun H3 s5 => ?_⟩
      refine ⟨_, rfl, rfl, _, rfl, ?_⟩
      rw [dec_int]
      have ez : decide (((ext sh (p ++ [some j]) : Nat) : Int) = (z : Int)) = decide (ext sh (p ++ [some j]) = z) := decide_eq_decide.mpr (by omega)
      rw [ez]
      refine ite_bool (fun c2 => ?_) (fun c2 => ?_)
      · have e : nextOf sh z p = some j := by
          unfold nextOf
          rw [← List.take_append_drop (i + 1) (fitM sh p.length), htk, List.append_assoc, List.find?_append, hn]
          show (j :: (fitM sh p.length).drop (i + 1)).find? (okNext sh z p) = some j
          rw [List.find?_cons_of_pos]
          unfold okNext
          rw [c', c2]; rfl
        rw [e] at k
        exact ⟨_, rfl, k H3 (s4.trans s5)⟩
      · refine ⟨_, rfl, fun b o e => s5 _ _ (((same_new hq _).trans (same_new hb _)) _ _ (s2 _ _ e)), no ?_⟩
        unfold okNext
        rw [c2, Bool.and_false]
    · have c' : (!(usedOf p).contains j) = false := c
      refine ⟨_, rfl, s2, no ?_⟩
      unfold okNext
      rw [c', Bool.false_and]
  · rintro σ H' ⟨v, rfl, s2, hn⟩
    rw [natV_len, List.take_length] at hn
    have e : nextOf sh z p = none := hn
    rw [e] at k
    exact k H' (s1.trans s2)
theorem scBA : FnScope ["moulds", "machines", "size", "entries"] ["moulds", "machines"] (defScope sBestA) := ⟨rfl, rfl, rfl, by decide +kernel, rfl, by decide +kernel, by decide +kernel⟩
theorem ok_bestA (F : Fun K "best_assignment" "best_assignment" sBestA f fd) (ml : mg "len" = none)
    (D1 : Def P w K mg base 7 "count_running" ["moulds", "machines"] spCount) (D2 : Def P w K mg base 9 "next_best_entry" ["entries", "size", "moulds", "machines"] spNextE) : FnOk P w K mg base CX0 10 f fd ["moulds", "machines"] spBestA := by
  refine F.ok scBA (fun vs H Q E h => ?_) (fun cdv A outer s H vs Q E hr h => ?_)
  · obtain ⟨lo, lm, s, rfl, _⟩ := h
    rfl
  obtain ⟨lo, lm, sh, rfl, ho, hm, o5, m5, k⟩ := h
  refine ⟨_, pss_cons (ps_set (i := 2) scBA.nd rfl (Or.inl rfl) (pe_callD D1 (hr.mono (by decide)) (pa_cons (pv 0) (pa_cons (pv 1) pa_nil))))
    (pss_cons (ps_set (i := 3) scBA.nd rfl (Or.inl rfl) (pe_lst pa_nil))
    (pss_cons (ps_while PassesOwn.never (pt_cmpR op_lt (pe_callB call_len_seq rfl ml PySem.boot_len (pa_cons (pv 3) pa_nil)) (pe_callB call_len_seq rfl ml PySem.boot_len (pa_cons (pv 0) pa_nil)) (nomark _))
      (pss_one (ps_expr (pe_bm PySem.F.plainAttrs_list PySem.F.slot_list_append PySem.F.type_list_append mt_append (pv 3) (pa_cons (pe_callD D2 hr (pa_cons (pv 3) (pa_cons (pv 2) (pa_cons (pv 0) (pa_cons (pv 1) pa_nil))))) pa_nil)))))
    (pss_one (ps_ret (pv 3))))), ?_⟩
  obtain ⟨ts, htl, hts⟩ := id ho
  refine ⟨_, rfl, _, rfl, lo, lm, sh, rfl, ho, hm, o5, m5, fun H1 s1 => ?_⟩
  refine ⟨(by show 0 ≤ sizeLine; decide), fun e he => ?_⟩
  have e0 : H e = none := s1.free he
  refine ⟨fun left σ H' => ∃ i : Nat, i + left = sh.moulds.length ∧ σ = [some (.ref lo), some (.ref lm), some (.int ((Sr117.maxRunning sh : Nat) : Int)), some (.ref e)] ∧ Same H H' ∧ H' e = some (.lst ((enc (greedy sh (Sr117.maxRunning sh) i)).map V.int)),
    ⟨sh.moulds.length, 0, Nat.zero_add _, rfl, s1.trans (same_new he _), upd_same⟩, ?_⟩
  rintro left σ H' ⟨i, hi, rfl, s2, he2⟩
  refine ⟨_, rfl, e, _, rfl, .inl (SqL.of he2), _, rfl, lo, _, rfl, .inl (SqL.of (s2 _ _ htl)), _, _, rfl, rfl, _, rfl, ?_⟩
  rw [List.length_map, List.length_map, enc_len, greedy_len, hts.len]
  refine ite_bool (fun c => ?_) (fun c => ?_)
  · have c' := of_decide_eq_true c
    cases left with
    | zero => omega
    | succ left =>
      refine ⟨_, fun σ' H'' q => ⟨left, Nat.lt_succ_self _, q⟩, ?_⟩
      refine ⟨_, rfl, .inl ⟨rfl, _, SqL.of he2⟩, _, rfl, _, rfl, _, rfl, _, rfl, e, lo, lm, greedy sh (Sr117.maxRunning sh) i, sh, Sr117.maxRunning sh, rfl, he2, ho.same s2, hm.same s2, by rw [greedy_len]; omega, o5, m5, fun H3 s3 => ?_⟩
      refine ⟨e, _, _, rfl, rfl, s3 _ _ he2, small1000 (by rw [List.length_map, enc_len, greedy_len]; omega), ?_⟩
      refine ⟨i + 1, by omega, rfl, fun b o q => by rw [upd_ne (ne_of_none q e0)]; exact s3 _ _ (s2 _ _ q), ?_⟩
      rw [upd_same, greedy, enc_app, List.map_append]
      rfl
  · have c' := of_decide_eq_false c
    have : i = sh.moulds.length := by omega
    subst this
    rw [greedy_is] at he2
    exact ⟨_, rfl, k H' e e0 he2 s2⟩
end
end Mp
/-! Jc -/
set_option Elab.async false
set_option maxRecDepth 100000
set_option maxHeartbeats 4000000
namespace Mp
open PySem PySem.Spec PyProof.Rows L2
open Sr117 (Shop Rating)
abbrev sSets : Stmt := top 37
abbrev sFitsOne : Stmt := top 38
abbrev sNb : Stmt := top 39
abbrev sDfc : Stmt := top 40
abbrev sDefSet : Stmt := top 41
abbrev sToCov : Stmt := top 42
abbrev sIsCov : Stmt := top 43
abbrev sCovSz : Stmt := top 44
abbrev sMinCov : Stmt := top 45
theorem sets5 {n : Nat} {c : List Nat} (h : c ∈ sets n) : c.length ≤ n := by
  obtain ⟨p, rfl⟩ := of_mem_sets h
  have := List.length_filter_le p (List.range n)
  rw [List.length_range] at this
  exact this
theorem pow5 {n : Nat} (h : n ≤ 5) : 2 ^ n ≤ 32 := by
  have : n = 0 ∨ n = 1 ∨ n = 2 ∨ n = 3 ∨ n = 4 ∨ n = 5 := by omega
  rcases this with rfl | rfl | rfl | rfl | rfl | rfl <;> decide
theorem NatsAt.app {H : Hp} {as bs : List Addr} {ls ms : List (List Nat)} (h : NatsAt H as ls) (g : NatsAt H bs ms) : NatsAt H (as ++ bs) (ls ++ ms) := by
  induction h with
  | nil => exact g
  | cons x _ ih => exact .cons x ih
/-! ### promises -/
def spSets : Sp := fun vs H Q _ => ∃ n : Nat, vs = [.int (n : Int)] ∧ n ≤ 5 ∧ ∀ H' p as, H p = none → H' p = some (.lst (as.map V.ref)) → NatsAt H' as (sets n) → Same H H' → Q (.ref p) H'
def spFitsOne (K : PySem.W.Frag) : Sp := fun vs H Q _ => ∃ (t c lo : Addr) (q : Rating) (cs : List Nat) (os : List Rating), vs = [.ref t, .ref c, .ref lo] ∧ RatT H t q ∧ SqL K H c (natV cs) ∧ RatL H lo os ∧ cs.length ≤ 1000 ∧ (∀ i ∈ cs, i < os.length) ∧
  ∀ H', Same H H' → Q (.bl (cs.any fun i => fit1 (os.getD i ⟨0, 0⟩) q)) H'
/-- what a set of moulds and the two lists are asked of -/
def SetsOf (K : PySem.W.Frag) (H : Hp) (c lo lm : Addr) (s : Shop) (cs : List Nat) : Prop := SqL K H c (natV cs) ∧ RatL H lo s.moulds ∧ RatL H lm s.machines ∧ cs.length ≤ 1000 ∧ (∀ i ∈ cs, i < s.moulds.length) ∧ s.moulds.length ≤ 5 ∧ s.machines.length ≤ 5
def spNb (K : PySem.W.Frag) (g : Shop → List Nat → List Nat) : Sp := fun vs H Q _ => ∃ (c lo lm : Addr) (s : Shop) (cs : List Nat), vs = [.ref c, .ref lo, .ref lm] ∧ SetsOf K H c lo lm s cs ∧
  ∀ H' p, H p = none → H' p = some (.lst (natV (g s cs))) → Same H H' → Q (.ref p) H'
def spNum1 (K : PySem.W.Frag) (g : Shop → List Nat → Nat) : Sp := fun vs H Q _ => ∃ (c lo lm : Addr) (s : Shop) (cs : List Nat), vs = [.ref c, .ref lo, .ref lm] ∧ SetsOf K H c lo lm s cs ∧
  ∀ H', Same H H' → Q (.int (g s cs : Nat)) H'
def spPick (g : Shop → List Nat) : Sp := fun vs H Q _ => ∃ (lo lm : Addr) (s : Shop), vs = [.ref lo, .ref lm] ∧ RatL H lo s.moulds ∧ RatL H lm s.machines ∧ s.moulds.length ≤ 5 ∧ s.machines.length ≤ 5 ∧
  ∀ H' p, H' p = some (.lst (natV (g s))) → Same H H' → Q (.ref p) H'
def spIsCov (K : PySem.W.Frag) : Sp := fun vs H Q _ => ∃ (c b lo lm : Addr) (s : Shop) (cs bs : List Nat), vs = [.ref c, .ref b, .ref lo, .ref lm] ∧ SetsOf K H c lo lm s cs ∧ SqL K H b (natV bs) ∧
  ∀ H', Same H H' → Q (.bl (Sr117.isCover s cs bs)) H'
theorem SetsOf.same {K : PySem.W.Frag} {H H' : Hp} {c lo lm : Addr} {s : Shop} {cs : List Nat} (h : SetsOf K H c lo lm s cs) (e : Same H H') : SetsOf K H' c lo lm s cs := ⟨e.seq h.1, h.2.1.same e, h.2.2.1.same e, h.2.2.2⟩
theorem nb_len (s : Shop) (cs : List Nat) : (Sr117.neighbours s cs).length ≤ s.machines.length := by
  unfold Sr117.neighbours
  have := List.length_filter_le (fun j => cs.any fun i => Sr117.fits s i j) (List.range s.machines.length)
  rw [List.length_range] at this
  exact this
section
variable {P : Program} {w : World} {K : PySem.W.Frag} {mg : Str → Option Value} {base : Heap} {f : Addr} {fd : FuncData}
theorem scSe : FnScope ["how_many", "found", "index", "with_index", "members"] ["how_many"] (defScope sSets) := ⟨rfl, rfl, rfl, by decide +kernel, rfl, by decide +kernel, by decide +kernel⟩
theorem ok_sets (F : Fun K "sets_by_bitmask" "sets_by_bitmask" sSets f fd) (mr : mg "range" = none) : FnOk P w K mg base CX0 1 f fd ["how_many"] spSets := by
  refine F.ok scSe (fun vs H Q E h => ?_) (fun cdv A outer s H vs Q E hr h => ?_)
  · obtain ⟨n, rfl, _⟩ := h
    rfl
  obtain ⟨n, rfl, n5, k⟩ := h
  refine ⟨_, pss_cons (ps_set (i := 1) scSe.nd rfl (Or.inl rfl) (pe_lst (pa_cons (pe_lst pa_nil) pa_nil)))
    (pss_cons (ps_for PassesOwn.never rfl (pi_range1 rfl mr (pa_cons (pv 0) pa_nil)) (pg_name (i := 2) scSe.nd rfl (Or.inr rfl))
      (pss_cons (ps_setLc (i := 3) (own := [("members", 4)]) (g := gName 4) (tt := tYes) (te := tOp rCat (tVar 4) (tLst (tCons (tVar 2) tNil))) rfl scSe.nd rfl rfl (sw_true rfl rfl rfl (by decide +kernel)) (pi_list (pv 1)) (blkOk_by (own := [("members", 4)]) (N := ["how_many", "found", "index", "with_index", "members"]) (sc := defScope sSets) (by decide +kernel))
          (fun _ _ _ _ _ => pg_name (i := 4) scSe.nd rfl (Or.inl rfl)) (fun _ _ _ _ _ => pts_nil) (fun _ _ _ _ _ => pe_op op_cat (pv 4) (pe_lst (pa_cons (pv 2) pa_nil))))
      (pss_one (ps_set (i := 1) scSe.nd rfl (Or.inl rfl) (pe_op op_cat (pv 1) (pv 3))))))
    (pss_one (ps_ret (pv 1)))), ?_⟩
  refine ⟨(by show 0 ≤ sizeLine; decide), fun e he => ⟨(by show 1 ≤ sizeLine; decide), fun l hl => ?_⟩⟩
  have hl0 : H l = none := (same_new he _).free hl
  have el : e ≠ l := fun z => by rw [← z, upd_same] at hl; cases hl
  refine ⟨_, rfl, _, rfl, by omega, by omega, ?_⟩
  rw [Int.toNat_natCast]
  refine for_range (lo := 0) (n := n) (fun i σ H' => ∃ (a : Addr) (as : List Addr) (v2 v3 v4 : Option V), σ = [some (.int (n : Int)), some (.ref a), v2, v3, v4] ∧ Same H H' ∧ H a = none ∧ H' a = some (.lst (as.map V.ref)) ∧ NatsAt H' as (sets i))
    ⟨l, [e], _, _, _, rfl, (same_new he _).trans (same_new hl _), hl0, upd_same, .cons (by rw [upd_ne el]; exact upd_same) .nil⟩ ?_ ?_
  · rintro i σ H' hi ⟨a, as, v2, v3, v4, rfl, s1, ha0, ha, hn⟩
    have ei : (0 : Int) + (i : Int) = (i : Int) := by omega
    rw [ei]
    have hlen := hn.len
    have h32 : (sets i).length ≤ 32 := by rw [sets_len]; exact pow5 (by omega)
    refine ⟨_, rfl, a, rfl, ⟨_, SqL.of ha⟩, fun D hD => ?_⟩
    refine lc_list (K := K) (a := a) (xs := as.map V.ref) (fun k H2 => Same H' H2 ∧ ∃ bs : List Addr, H2 D = some (.lst (bs.map V.ref)) ∧ NatsAt (Off D H2) bs (((sets i).take k).map fun c => c ++ [i])) ⟨same_new hD _, [], upd_same, .nil⟩ (fun k H2 _ z => SqL.of (z.1 _ _ ha)) ?_ ?_
    · rintro k x H2 hx ⟨s2, bs, d1, d2⟩
      rw [List.getElem?_map] at hx
      obtain ⟨u, hu, rfl⟩ := Option.map_eq_some_iff.mp hx
      have hk : k < (sets i).length := by
        have := (List.getElem?_eq_some_iff.mp hu).1
        omega
      obtain ⟨c, hc⟩ := get_some hk
      obtain ⟨u', hu', hcu⟩ := hn.get hc
      rw [hu] at hu'
      cases hu'
      have hc5 := sets5 (List.mem_of_getElem? hc)
      refine ⟨rfl, ?_⟩
      refine ⟨_, rfl, _, rfl, (by show 1 ≤ sizeLine; decide), fun q hq => ?_⟩
      have s3 := same_new hq (.lst [.int (i : Int)])
      refine ⟨u, q, _, _, rfl, rfl, s3 _ _ (s2 _ _ hcu), upd_same, small (by rw [natV_len]; show c.length + 1 ≤ 1000; omega), fun b hb => ?_⟩
      have s4 := s3.trans (same_new hb (.lst (natV c ++ [V.int (i : Int)])))
      have d1' := s4 _ _ d1
      have hb0 : H2 b = none := s3.free hb
      have Db : b ≠ D := fun z => by rw [z, d1] at hb0; cases hb0
      have hbl := d2.len
      refine ⟨_, d1', small1000 (by rw [List.length_map, hbl, List.length_map, List.length_take]; omega), fun b o e => ?_, bs ++ [b], ?_, ?_⟩
      · rw [upd_ne (ne_of_none e hD)]
        exact s4 _ _ (s2 _ _ e)
      · rw [upd_same, List.map_append]; rfl
      · rw [take_more hc, List.map_append]
        refine NatsAt.add (d2.keep fun z xs e => ?_) (Off.of Db ?_)
        · obtain ⟨e1, e2⟩ := Off.inv e
          exact Off.of e1 (by rw [upd_ne e1]; exact s4 _ _ e2)
        · rw [upd_ne Db, upd_same]
          unfold natV
          rw [List.map_append]
          rfl
    · rintro H2 ⟨s2, bs, d1, d2⟩
      rw [List.length_map, hlen, List.take_length] at d2
      have hbl := d2.len
      rw [List.length_map] at hbl
      refine ⟨_, rfl, _, rfl, a, D, _, _, rfl, rfl, s2 _ _ ha, d1, small (by rw [List.length_map, List.length_map]; omega), fun b hb => ?_⟩
      have s3 := s2.trans (same_new hb (.lst (as.map V.ref ++ bs.map V.ref)))
      refine ⟨b, as ++ bs, _, _, _, rfl, s1.trans s3, s1.free (s2.free hb), ?_, ?_⟩
      · rw [upd_same, List.map_append]
      · rw [sets]
        refine (hn.keep fun z xs e => s3 _ _ e).app (d2.keep fun z xs e => ?_)
        obtain ⟨e1, e2⟩ := Off.inv e
        exact same_new hb _ _ _ e2
  · rintro σ H' ⟨a, as, v2, v3, v4, rfl, s1, ha0, ha, hn⟩
    exact ⟨_, rfl, k H' a as ha0 ha hn s1⟩
theorem scFO : FnScope ["machine", "chosen", "moulds", "i"] ["machine", "chosen", "moulds"] (defScope sFitsOne) := ⟨rfl, rfl, rfl, by decide +kernel, rfl, by decide +kernel, by decide +kernel⟩
theorem ok_fitsOne (F : Fun K "fits_one" "fits_one" sFitsOne f fd) (ma : mg "any" = none) (D1 : Def P w K mg base 1 "fits" ["mould", "machine"] spFits) : FnOk P w K mg base CX0 2 f fd ["machine", "chosen", "moulds"] (spFitsOne K) := by
  refine F.ok scFO (fun vs H Q E h => ?_) (fun cdv A outer s H vs Q E hr h => ?_)
  · obtain ⟨t, c, lo, q, cs, os, rfl, _⟩ := h
    rfl
  obtain ⟨t, c, lo, q, cs, os, rfl, ht, hc, ho, c1, cl, k⟩ := h
  refine ⟨_, pss_one (ps_ret (pe_callB (cr_any rfl) rfl ma (by decide +kernel) (pa_cons (pe_lc (own := [("i", 3)]) (g := gName 3) (tt := tYes) (te := tCall spFits [] E0 (tCons (tOp (rIxL K) (tVar 2) (tVar 3)) (tCons (tVar 0) tNil))) rfl scFO.nd (pi_list (pv 1)) (blkOk_by (own := [("i", 3)]) (N := ["machine", "chosen", "moulds", "i"]) (sc := defScope sFitsOne) (by decide +kernel))
    (fun _ _ _ _ _ => pg_name (i := 3) scFO.nd rfl (Or.inl rfl)) (fun _ _ _ _ _ => pts_nil) (fun _ _ _ _ _ => pe_callD D1 hr (pa_cons (pe_ix ix_list (pv 2) (pv 3) (fun _ _ => rfl)) (pa_cons (pv 0) pa_nil)))) pa_nil))), ?_⟩
  obtain ⟨ts, htl, hts⟩ := id ho
  refine ⟨_, rfl, c, rfl, ⟨_, hc⟩, fun D hD => ?_⟩
  refine lc_list (K := K) (a := c) (xs := natV cs) (fun i H' => Same H H' ∧ H' D = some (.lst (((cs.take i).map fun i => fit1 (os.getD i ⟨0, 0⟩) q).map V.bl))) ⟨same_new hD _, upd_same⟩ (fun i H' _ z => z.1.seq hc) ?_ ?_
  · rintro i x H' hi ⟨s1, d1⟩
    unfold natV at hi
    rw [List.getElem?_map] at hi
    obtain ⟨j, hj, rfl⟩ := Option.map_eq_some_iff.mp hi
    have hjl := cl j (List.mem_of_getElem? hj)
    obtain ⟨r, hr1⟩ := get_some hjl
    obtain ⟨u, hu1, hu2⟩ := hts.get hr1
    refine ⟨rfl, ?_⟩
    refine ⟨_, rfl, _, rfl, lo, _, _, .ref u, rfl, rfl, SqL.of (s1 _ _ htl), atI_nat (by rw [List.getElem?_map, hu1]; rfl), _, rfl, u, t, r, q, rfl, s1 _ _ hu2, s1 _ _ ht, ?_⟩
    refine ⟨_, d1, small1000 (by rw [List.length_map, List.length_map, List.length_take]; omega), fun b o e => ?_, ?_⟩
    · rw [upd_ne (ne_of_none e hD)]
      exact s1 _ _ e
    · rw [upd_same, take_more hj, List.map_append, List.map_append]
      have er : os.getD j ⟨0, 0⟩ = r := by rw [List.getD_eq_getElem?_getD, hr1]; rfl
      rw [List.map_singleton, er]
      rfl
  · rintro H' ⟨s1, d1⟩
    rw [natV_len, List.take_length] at d1
    have e : (cs.any fun i => fit1 (os.getD i ⟨0, 0⟩) q) = (cs.map fun i => fit1 (os.getD i ⟨0, 0⟩) q).any id := by
      rw [List.any_map]; rfl
    rw [e] at k
    exact ⟨D, _, rfl, SqL.of d1, k H' s1⟩
end
end Mp
/-! Jc2 -/
set_option Elab.async false
set_option maxRecDepth 100000
set_option maxHeartbeats 4000000
namespace Mp
open PySem PySem.Spec PyProof.Rows L2
open Sr117 (Shop Rating)
theorem any_fit {s : Shop} {j : Nat} {q : Rating} (hq : s.machines[j]? = some q) : ∀ cs : List Nat, (∀ i ∈ cs, i < s.moulds.length) → (cs.any fun i => fit1 (s.moulds.getD i ⟨0, 0⟩) q) = cs.any fun i => Sr117.fits s i j
  | [], _ => rfl
  | i :: cs, h => by
    obtain ⟨r, hr⟩ := get_some (h i (List.mem_cons_self ..))
    rw [List.any_cons, List.any_cons, any_fit hq cs fun i m => h i (List.mem_cons_of_mem _ m), fits_at hr hq, List.getD_eq_getElem?_getD, hr]
    rfl
theorem fold_in {α : Type} {S : List α} {step : α → α → α} (hs : ∀ b c, step b c = b ∨ step b c = c) : ∀ (l : List α) (b : α), b ∈ S → (∀ x ∈ l, x ∈ S) → l.foldl step b ∈ S
  | [], b, h, _ => h
  | x :: l, b, h, g => by
    rw [List.foldl_cons]
    refine fold_in hs l _ ?_ fun y m => g y (List.mem_cons_of_mem _ m)
    rcases hs b x with e | e
    · rw [e]; exact h
    · rw [e]; exact g x (List.mem_cons_self ..)
theorem nil_in (n : Nat) : [] ∈ sets n := by
  obtain ⟨t, e⟩ := sets_head n
  rw [e]
  exact List.mem_cons_self ..
theorem def_pick (s : Shop) (b c : List Nat) : defStep s b c = b ∨ defStep s b c = c := by
  unfold defStep
  split
  · exact .inr rfl
  · exact .inl rfl
theorem cov_pick (s : Shop) (b c : List Nat) : covStep s b c = b ∨ covStep s b c = c := by
  unfold covStep
  split
  · exact .inr rfl
  · exact .inl rfl
theorem others_lt {n : Nat} {c : List Nat} : ∀ i ∈ others n c, i < n := fun i h => (mem_others.mp h).1
theorem others_len (n : Nat) (c : List Nat) : (others n c).length ≤ n := by
  unfold others
  have := List.length_filter_le (fun i => !c.contains i) (List.range n)
  rw [List.length_range] at this
  exact this
section
variable {P : Program} {w : World} {K : PySem.W.Frag} {mg : Str → Option Value} {base : Heap} {f : Addr} {fd : FuncData}
theorem scNb : FnScope ["chosen", "moulds", "machines", "j", "machine"] ["chosen", "moulds", "machines"] (defScope sNb) := ⟨rfl, rfl, rfl, by decide +kernel, rfl, by decide +kernel, by decide +kernel⟩
theorem ok_nb (F : Fun K "neighbours_of" "neighbours_of" sNb f fd) (me : mg "enumerate" = none) (D1 : Def P w K mg base 2 "fits_one" ["machine", "chosen", "moulds"] (spFitsOne K)) : FnOk P w K mg base CX0 3 f fd ["chosen", "moulds", "machines"] (spNb K Sr117.neighbours) := by
  refine F.ok scNb (fun vs H Q E h => ?_) (fun cdv A outer s H vs Q E hr h => ?_)
  · obtain ⟨c, lo, lm, s, cs, rfl, _⟩ := h
    rfl
  obtain ⟨c, lo, lm, sh, cs, rfl, S, k⟩ := h
  obtain ⟨hc, ho, hm, c1, cl, o5, m5⟩ := id S
  refine ⟨_, pss_one (ps_ret (pe_lc (own := [("j", 3), ("machine", 4)]) (g := gTup K 2 (gCons (gName 3) (gCons (gName 4) gNil))) (tt := tB (tCall (spFitsOne K) [] E0 (tCons (tVar 4) (tCons (tVar 0) (tCons (tVar 1) tNil))))) (te := tVar 3) rfl scNb.nd (pi_enum (by rfl) me (pa_cons (pv 2) pa_nil)) (blkOk_by (own := [("j", 3), ("machine", 4)]) (N := ["chosen", "moulds", "machines", "j", "machine"]) (sc := defScope sNb) (by decide +kernel))
    (fun _ _ _ _ _ => pg_tup rfl (pgs_cons (pg_name (i := 3) scNb.nd rfl (Or.inl rfl)) (pgs_cons (pg_name (i := 4) scNb.nd rfl (Or.inl rfl)) pgs_nil)))
    (fun _ _ _ _ _ => pts_one (pt_val (pe_callD D1 hr (pa_cons (pv 4) (pa_cons (pv 0) (pa_cons (pv 1) pa_nil))))))
    (fun _ _ _ _ _ => pv 3))), ?_⟩
  obtain ⟨us, hul, hus⟩ := id hm
  have hlen := hus.len
  have hll : (us.map V.ref).length = sh.machines.length := by rw [List.length_map, hlen]
  refine ⟨_, rfl, lm, _, rfl, SqL.of hul, fun D hD => ?_⟩
  refine lc_it (walk_enum (K := K) (a := lm) (xs := us.map V.ref)) (fun i H' => Same H H' ∧ H' D = some (.lst (natV ((List.range i).filter fun j => cs.any fun i => Sr117.fits sh i j)))) ⟨same_new hD _, upd_same⟩ (fun i H' _ z => SqL.of (z.1 _ _ hul)) ?_ ?_
  · rintro i x H' H'' hi ⟨s1, d1⟩ ⟨T, y1, y2, rfl, hT, rfl, e1, e2⟩
    cases e1
    have e2 : (us.map V.ref)[i]? = some y2 := e2
    rw [List.getElem?_map] at e2
    obtain ⟨u, hu, rfl⟩ := Option.map_eq_some_iff.mp e2
    have hi' : i < sh.machines.length := by rw [hll] at hi; exact hi
    obtain ⟨q, hq⟩ := get_some hi'
    obtain ⟨u', hu', rt⟩ := hus.get hq
    rw [hu] at hu'
    cases hu'
    have s2 := s1.trans (same_new hT (.tup [.int (i : Nat), .ref u]))
    have DT : D ≠ T := ne_of_none d1 hT
    have d2 := same_new hT (.tup [.int (i : Nat), .ref u]) _ _ d1
    refine ⟨T, _, rfl, seqT_new, rfl, _, _, rfl, _, _, rfl, rfl, rfl, ?_⟩
    refine ⟨_, rfl, _, rfl, _, rfl, u, c, lo, q, cs, sh.moulds, rfl, s2 _ _ rt, s2.seq hc, ho.same s2, c1, cl, fun H3 s3 => ?_⟩
    rw [any_fit hq cs cl, List.range_succ, List.filter_append]
    refine ⟨_, rfl, ?_⟩
    refine ite_bool (fun z => ?_) (fun z => ?_)
    · have ef : List.filter (fun j => cs.any fun i => Sr117.fits sh i j) [i] = [i] := by
        rw [List.filter_cons, z]; rfl
      rw [ef]
      refine ⟨_, rfl, _, s3 _ _ d2, small1000 ?_, fun b o e => by rw [upd_ne (ne_of_none e hD)]; exact s3 _ _ (s2 b o e), ?_⟩
      · rw [natV_len]
        have := List.length_filter_le (fun j => cs.any fun i => Sr117.fits sh i j) (List.range i)
        rw [List.length_range] at this
        omega
      · rw [upd_same]
        unfold natV
        rw [List.map_append]
        rfl
    · have ef : List.filter (fun j => cs.any fun i => Sr117.fits sh i j) [i] = [] := by
        rw [List.filter_cons, z]; rfl
      rw [ef, List.append_nil]
      exact ⟨s2.trans s3, s3 _ _ d2⟩
  · rintro H' ⟨s1, d1⟩
    rw [hll] at d1
    exact k H' D hD d1 s1
theorem scDf : FnScope ["chosen", "moulds", "machines"] ["chosen", "moulds", "machines"] (defScope sDfc) := ⟨rfl, rfl, rfl, by decide +kernel, rfl, by decide +kernel, by decide +kernel⟩
theorem ok_dfc (F : Fun K "deficiency" "deficiency" sDfc f fd) (mm : mg "max" = none) (ml : mg "len" = none) (D1 : Def P w K mg base 3 "neighbours_of" ["chosen", "moulds", "machines"] (spNb K Sr117.neighbours)) : FnOk P w K mg base CX0 4 f fd ["chosen", "moulds", "machines"] (spNum1 K dfc) := by
  refine F.ok scDf (fun vs H Q E h => ?_) (fun cdv A outer s H vs Q E hr h => ?_)
  · obtain ⟨c, lo, lm, s, cs, rfl, _⟩ := h
    rfl
  obtain ⟨c, lo, lm, sh, cs, rfl, S, k⟩ := h
  refine ⟨_, pss_one (ps_ret (pe_callB (call_max2 rfl) rfl mm (by decide +kernel) (pa_cons pe_int (pa_cons (pe_op op_sub (pe_callB call_len_seq rfl ml PySem.boot_len (pa_cons (pv 0) pa_nil)) (pe_callB call_len_seq rfl ml PySem.boot_len (pa_cons (pe_callD D1 hr (pa_cons (pv 0) (pa_cons (pv 1) (pa_cons (pv 2) pa_nil)))) pa_nil))) pa_nil)))), ?_⟩
  refine ⟨_, rfl, c, _, rfl, .inl S.1, _, rfl, _, rfl, _, rfl, c, lo, lm, sh, cs, rfl, S, fun H1 p hp0 hp s1 => ?_⟩
  refine ⟨p, _, rfl, .inl (SqL.of hp), _, _, rfl, rfl, _, _, rfl, ?_⟩
  rw [natV_len, natV_len]
  have kk := k H1 s1
  have e : ((dfc sh cs : Nat) : Int) = (if (((cs.length : Nat) : Int) - ((Sr117.neighbours sh cs).length : Nat)) > 0 then (((cs.length : Nat) : Int) - ((Sr117.neighbours sh cs).length : Nat)) else 0) := by
    unfold dfc
    split <;> omega
  rw [e] at kk
  exact kk
theorem scTC : FnScope ["chosen", "moulds", "machines", "others", "i", "mould"] ["chosen", "moulds", "machines"] (defScope sToCov) := ⟨rfl, rfl, rfl, by decide +kernel, rfl, by decide +kernel, by decide +kernel⟩
theorem ok_toCov (F : Fun K "machines_to_cover" "machines_to_cover" sToCov f fd) (me : mg "enumerate" = none) (D1 : Def P w K mg base 3 "neighbours_of" ["chosen", "moulds", "machines"] (spNb K Sr117.neighbours)) : FnOk P w K mg base CX0 4 f fd ["chosen", "moulds", "machines"] (spNb K rest) := by
  refine F.ok scTC (fun vs H Q E h => ?_) (fun cdv A outer s H vs Q E hr h => ?_)
  · obtain ⟨c, lo, lm, s, cs, rfl, _⟩ := h
    rfl
  obtain ⟨c, lo, lm, sh, cs, rfl, S, k⟩ := h
  obtain ⟨hc, ho, hm, c1, cl, o5, m5⟩ := id S
  refine ⟨_, pss_cons (ps_setLc (i := 3) (own := [("i", 4), ("mould", 5)]) (g := gTup K 2 (gCons (gName 4) (gCons (gName 5) gNil))) (tt := tTest (tOp (rIn K true) (tVar 4) (tVar 0))) (te := tVar 4) rfl scTC.nd rfl rfl (sw_true rfl rfl rfl (by decide +kernel)) (pi_enum (by rfl) me (pa_cons (pv 1) pa_nil)) (blkOk_by (own := [("i", 4), ("mould", 5)]) (N := ["chosen", "moulds", "machines", "others", "i", "mould"]) (sc := defScope sToCov) (by decide +kernel))
      (fun _ _ _ _ _ => pg_tup rfl (pgs_cons (pg_name (i := 4) scTC.nd rfl (Or.inl rfl)) (pgs_cons (pg_name (i := 5) scTC.nd rfl (Or.inl rfl)) pgs_nil)))
      (fun _ _ _ _ _ => pts_one (pt_cmpR op_notIn_seq (pv 4) (pv 0) (by rfl)))
      (fun _ _ _ _ _ => pv 4))
    (pss_one (ps_ret (pe_callD D1 hr (pa_cons (pv 3) (pa_cons (pv 1) (pa_cons (pv 2) pa_nil)))))), ?_⟩
  obtain ⟨ts, htl, hts⟩ := id ho
  have hll : (ts.map V.ref).length = sh.moulds.length := by rw [List.length_map, hts.len]
  refine ⟨_, rfl, lo, _, rfl, SqL.of htl, fun D hD => ?_⟩
  refine lc_it (walk_enum (K := K) (a := lo) (xs := ts.map V.ref)) (fun i H' => Same H H' ∧ H' D = some (.lst (natV (others i cs)))) ⟨same_new hD _, upd_same⟩ (fun i H' _ z => SqL.of (z.1 _ _ htl)) ?_ ?_
  · rintro i x H' H'' hi ⟨s1, d1⟩ ⟨T, y1, y2, rfl, hT, rfl, e1, e2⟩
    cases e1
    have s2 := s1.trans (same_new hT (.tup [.int (i : Nat), y2]))
    have d2 := same_new hT (.tup [.int (i : Nat), y2]) _ _ d1
    refine ⟨T, _, rfl, seqT_new, rfl, _, _, rfl, _, _, rfl, rfl, rfl, ?_⟩
    refine ⟨_, rfl, _, rfl, c, _, rfl, .inl (s2.seq hc), rfl, flat_nats _, ?_⟩
    rw [in_nats]
    have eo : others (i + 1) cs = others i cs ++ List.filter (fun i => !cs.contains i) [i] := by
      unfold others
      rw [List.range_succ, List.filter_append]
    rw [eo]
    refine ⟨_, rfl, ?_⟩
    refine ite_bool (fun z => ?_) (fun z => ?_)
    · have z' : (!cs.contains i) = true := z
      have ef : List.filter (fun i => !cs.contains i) [i] = [i] := by
        rw [List.filter_cons, z']; rfl
      rw [ef]
      refine ⟨_, rfl, _, d2, small1000 ?_, fun b o e => by rw [upd_ne (ne_of_none e hD)]; exact s2 b o e, ?_⟩
      · rw [natV_len]
        have := others_len i cs
        omega
      · rw [upd_same]
        unfold natV
        rw [List.map_append]
        rfl
    · have z' : (!cs.contains i) = false := z
      have ef : List.filter (fun i => !cs.contains i) [i] = [] := by
        rw [List.filter_cons, z']; rfl
      rw [ef, List.append_nil]
      exact ⟨s2, d2⟩
  · rintro H1 ⟨s1, d1⟩
    rw [hll] at d1
    refine ⟨_, rfl, _, rfl, _, rfl, D, lo, lm, sh, others sh.moulds.length cs, rfl, ⟨SqL.of d1, ho.same s1, hm.same s1, by have := others_len sh.moulds.length cs; omega, others_lt, o5, m5⟩, fun H2 p hp0 hp s2 => ?_⟩
    exact k H2 p (s1.free hp0) hp (s1.trans s2)
theorem scIC : FnScope ["chosen", "taken", "moulds", "machines", "j"] ["chosen", "taken", "moulds", "machines"] (defScope sIsCov) := ⟨rfl, rfl, rfl, by decide +kernel, rfl, by decide +kernel, by decide +kernel⟩
theorem ok_isCov (F : Fun K "is_cover" "is_cover" sIsCov f fd) (ma : mg "all" = none) (D1 : Def P w K mg base 4 "machines_to_cover" ["chosen", "moulds", "machines"] (spNb K rest)) : FnOk P w K mg base CX0 5 f fd ["chosen", "taken", "moulds", "machines"] (spIsCov K) := by
  refine F.ok scIC (fun vs H Q E h => ?_) (fun cdv A outer s H vs Q E hr h => ?_)
  · obtain ⟨c, b, lo, lm, s, cs, bs, rfl, _⟩ := h
    rfl
  obtain ⟨c, b, lo, lm, sh, cs, bs, rfl, S, hb, k⟩ := h
  refine ⟨_, pss_one (ps_ret (pe_callB (cr_all rfl) rfl ma (by decide +kernel) (pa_cons (pe_lc (own := [("j", 4)]) (g := gName 4) (tt := tYes) (te := tOp (rIn K false) (tVar 4) (tVar 1)) rfl scIC.nd (pi_list (pe_callD D1 hr (pa_cons (pv 0) (pa_cons (pv 2) (pa_cons (pv 3) pa_nil))))) (blkOk_by (own := [("j", 4)]) (N := ["chosen", "taken", "moulds", "machines", "j"]) (sc := defScope sIsCov) (by decide +kernel))
    (fun _ _ _ _ _ => pg_name (i := 4) scIC.nd rfl (Or.inl rfl)) (fun _ _ _ _ _ => pts_nil) (fun _ _ _ _ _ => pe_cmpR op_in_seq (pv 4) (pv 1) (by rfl))) pa_nil))), ?_⟩
  refine ⟨_, rfl, _, rfl, _, rfl, c, lo, lm, sh, cs, rfl, S, fun H1 p hp0 hp s1 => ?_⟩
  refine ⟨p, rfl, ⟨_, SqL.of hp⟩, fun D hD => ?_⟩
  refine lc_list (K := K) (a := p) (xs := natV (rest sh cs)) (fun i H' => Same H1 H' ∧ H' D = some (.lst ((((rest sh cs).take i).map fun j => bs.contains j).map V.bl))) ⟨same_new hD _, upd_same⟩ (fun i H' _ z => SqL.of (z.1 _ _ hp)) ?_ ?_
  · rintro i x H' hi ⟨s2, d1⟩
    unfold natV at hi
    rw [List.getElem?_map] at hi
    obtain ⟨j, hj, rfl⟩ := Option.map_eq_some_iff.mp hi
    refine ⟨rfl, ?_⟩
    refine ⟨_, rfl, _, rfl, b, _, rfl, .inl ((s1.trans s2).seq hb), rfl, flat_nats _, ?_⟩
    rw [in_nats]
    have hl := nb_len sh (others sh.moulds.length cs)
    have m5 := S.2.2.2.2.2.2
    refine ⟨_, d1, small1000 (by rw [List.length_map, List.length_map, List.length_take]; unfold rest; omega), fun b o e => ?_, ?_⟩
    · rw [upd_ne (ne_of_none e hD)]
      exact s2 _ _ e
    · rw [upd_same, take_more hj, List.map_append, List.map_append]
      rfl
  · rintro H' ⟨s2, d1⟩
    rw [natV_len, List.take_length] at d1
    have e : Sr117.isCover sh cs bs = ((rest sh cs).map fun j => bs.contains j).all id := by
      rw [cover_all, List.all_map]; rfl
    rw [e] at k
    exact ⟨D, _, rfl, SqL.of d1, k H' (s1.trans s2)⟩
theorem scCS : FnScope ["chosen", "moulds", "machines"] ["chosen", "moulds", "machines"] (defScope sCovSz) := ⟨rfl, rfl, rfl, by decide +kernel, rfl, by decide +kernel, by decide +kernel⟩
theorem ok_covSz (F : Fun K "cover_size" "cover_size" sCovSz f fd) (ml : mg "len" = none) (D1 : Def P w K mg base 4 "machines_to_cover" ["chosen", "moulds", "machines"] (spNb K rest)) : FnOk P w K mg base CX0 5 f fd ["chosen", "moulds", "machines"] (spNum1 K csz) := by
  refine F.ok scCS (fun vs H Q E h => ?_) (fun cdv A outer s H vs Q E hr h => ?_)
  · obtain ⟨c, lo, lm, s, cs, rfl, _⟩ := h
    rfl
  obtain ⟨c, lo, lm, sh, cs, rfl, S, k⟩ := h
  refine ⟨_, pss_one (ps_ret (pe_op op_add (pe_callB call_len_seq rfl ml PySem.boot_len (pa_cons (pv 0) pa_nil)) (pe_callB call_len_seq rfl ml PySem.boot_len (pa_cons (pe_callD D1 hr (pa_cons (pv 0) (pa_cons (pv 1) (pa_cons (pv 2) pa_nil)))) pa_nil)))), ?_⟩
  refine ⟨_, rfl, c, _, rfl, .inl S.1, _, rfl, _, rfl, _, rfl, c, lo, lm, sh, cs, rfl, S, fun H1 p hp0 hp s1 => ?_⟩
  refine ⟨p, _, rfl, .inl (SqL.of hp), _, _, rfl, rfl, ?_⟩
  rw [natV_len, natV_len]
  have kk := k H1 s1
  have e : ((csz sh cs : Nat) : Int) = ((cs.length : Nat) : Int) + ((rest sh cs).length : Nat) := by
    unfold csz
    omega
  rw [e] at kk
  exact kk
theorem scDS : FnScope ["moulds", "machines", "best", "chosen"] ["moulds", "machines"] (defScope sDefSet) := ⟨rfl, rfl, rfl, by decide +kernel, rfl, by decide +kernel, by decide +kernel⟩
theorem ok_defSet (F : Fun K "deficient_set" "deficient_set" sDefSet f fd) (ml : mg "len" = none) (D1 : Def P w K mg base 1 "sets_by_bitmask" ["how_many"] spSets) (D2 : Def P w K mg base 4 "deficiency" ["chosen", "moulds", "machines"] (spNum1 K dfc)) : FnOk P w K mg base CX0 5 f fd ["moulds", "machines"] (spPick bestDef) := by
  refine F.ok scDS (fun vs H Q E h => ?_) (fun cdv A outer s H vs Q E hr h => ?_)
  · obtain ⟨lo, lm, s, rfl, _⟩ := h
    rfl
  obtain ⟨lo, lm, sh, rfl, ho, hm, o5, m5, k⟩ := h
  refine ⟨_, pss_cons (ps_set (i := 2) scDS.nd rfl (Or.inl rfl) (pe_lst pa_nil))
    (pss_cons (ps_for PassesOwn.never rfl (pi_list (pe_callD D1 (hr.mono (by decide)) (pa_cons (pe_callB call_len_seq rfl ml PySem.boot_len (pa_cons (pv 0) pa_nil)) pa_nil))) (pg_name (i := 3) scDS.nd rfl (Or.inl rfl))
      (pss_one (ps_if (pt_cmpR op_gt (pe_callD D2 hr (pa_cons (pv 3) (pa_cons (pv 0) (pa_cons (pv 1) pa_nil)))) (pe_callD D2 hr (pa_cons (pv 2) (pa_cons (pv 0) (pa_cons (pv 1) pa_nil)))) (nomark _)) (pss_one (ps_set (i := 2) scDS.nd rfl (Or.inl rfl) (pv 3))) pss_nil)))
    (pss_one (ps_ret (pv 2)))), ?_⟩
  obtain ⟨ts, htl, hts⟩ := id ho
  refine ⟨(by show 0 ≤ sizeLine; decide), fun e he => ?_⟩
  have s0 := same_new he (.lst [])
  refine ⟨_, rfl, lo, _, rfl, .inl (SqL.of (s0 _ _ htl)), sh.moulds.length, by rw [List.length_map, hts.len]; rfl, o5, fun H1 L as hL0 hL hn s1 => ?_⟩
  have hlen := hn.len
  have sl := sets_len sh.moulds.length
  refine ⟨L, rfl, ⟨_, SqL.of hL⟩, ?_⟩
  have hin : ∀ i, ((sets sh.moulds.length).take i).foldl (defStep sh) [] ∈ sets sh.moulds.length := fun i => fold_in (def_pick sh) _ _ (nil_in _) fun x m => List.mem_of_mem_take m
  have so : ∀ (H' : Hp) (c : Addr) (cs : List Nat), Same H H' → cs ∈ sets sh.moulds.length → H' c = some (.lst (natV cs)) → SetsOf K H' c lo lm sh cs := fun H' c cs q m hc =>
    ⟨SqL.of hc, ho.same q, hm.same q, by have := sets5 m; omega, sets_lt m, o5, m5⟩
  have s01 := s0.trans s1
  refine for_list (K := K) (a := L) (xs := as.map V.ref) (fun i σ H' => ∃ (b : Addr) (v : Option V), σ = [some (.ref lo), some (.ref lm), some (.ref b), v] ∧ Same H1 H' ∧ H' b = some (.lst (natV (((sets sh.moulds.length).take i).foldl (defStep sh) []))))
    ⟨e, _, rfl, fun _ _ z => z, s1 _ _ upd_same⟩ (fun i σ H' _ q => by obtain ⟨_, _, _, s2, _⟩ := q; exact SqL.of (s2 _ _ hL)) ?_ ?_
  · rintro i x σ H' hx ⟨b, v, rfl, s2, hb⟩
    rw [List.getElem?_map] at hx
    obtain ⟨c, hc, rfl⟩ := Option.map_eq_some_iff.mp hx
    have hi : i < (sets sh.moulds.length).length := by
      have := (List.getElem?_eq_some_iff.mp hc).1
      omega
    obtain ⟨cs, hcs⟩ := get_some hi
    obtain ⟨c', hc', hcu⟩ := hn.get hcs
    rw [hc] at hc'
    cases hc'
    have hmem := List.mem_of_getElem? hcs
    have et : ((sets sh.moulds.length).take (i + 1)).foldl (defStep sh) [] = defStep sh (((sets sh.moulds.length).take i).foldl (defStep sh) []) cs := by
      rw [take_more hcs, List.foldl_append]
      rfl
    rw [et]
    have hm2 := hin i
    generalize ((sets sh.moulds.length).take i).foldl (defStep sh) [] = bs at *
    refine ⟨_, rfl, _, rfl, _, rfl, c, lo, lm, sh, cs, rfl, so H' c cs (s01.trans s2) hmem (s2 _ _ hcu), fun H3 s3 => ?_⟩
    refine ⟨_, rfl, _, rfl, _, rfl, b, lo, lm, sh, bs, rfl, so H3 b bs (s01.trans (s2.trans s3)) hm2 (s3 _ _ hb), fun H4 s4 => ?_⟩
    have s24 := s2.trans (s3.trans s4)
    refine ⟨_, _, rfl, rfl, _, rfl, ?_⟩
    refine ite_bool (fun z => ?_) (fun z => ?_)
    · have z' := of_decide_eq_true z
      refine ⟨_, rfl, c, _, rfl, s24, ?_⟩
      unfold defStep
      rw [if_pos (by omega)]
      exact s24 _ _ hcu
    · have z' := of_decide_eq_false z
      refine ⟨b, _, rfl, s24, ?_⟩
      unfold defStep
      rw [if_neg (by omega)]
      exact s4 _ _ (s3 _ _ hb)
  · rintro σ H' ⟨b, v, rfl, s2, hb⟩
    rw [List.length_map, hlen, List.take_length] at hb
    exact ⟨_, rfl, k H' b hb (s01.trans s2)⟩
theorem scMC : FnScope ["moulds", "machines", "best", "chosen"] ["moulds", "machines"] (defScope sMinCov) := ⟨rfl, rfl, rfl, by decide +kernel, rfl, by decide +kernel, by decide +kernel⟩
theorem ok_minCov (F : Fun K "minimum_cover_moulds" "minimum_cover_moulds" sMinCov f fd) (ml : mg "len" = none) (D1 : Def P w K mg base 1 "sets_by_bitmask" ["how_many"] spSets) (D2 : Def P w K mg base 5 "cover_size" ["chosen", "moulds", "machines"] (spNum1 K csz)) : FnOk P w K mg base CX0 6 f fd ["moulds", "machines"] (spPick bestCov) := by
  refine F.ok scMC (fun vs H Q E h => ?_) (fun cdv A outer s H vs Q E hr h => ?_)
  · obtain ⟨lo, lm, s, rfl, _⟩ := h
    rfl
  obtain ⟨lo, lm, sh, rfl, ho, hm, o5, m5, k⟩ := h
  refine ⟨_, pss_cons (ps_set (i := 2) scMC.nd rfl (Or.inl rfl) (pe_lst pa_nil))
    (pss_cons (ps_for PassesOwn.never rfl (pi_list (pe_callD D1 (hr.mono (by decide)) (pa_cons (pe_callB call_len_seq rfl ml PySem.boot_len (pa_cons (pv 0) pa_nil)) pa_nil))) (pg_name (i := 3) scMC.nd rfl (Or.inl rfl))
      (pss_one (ps_if (pt_cmpR op_lt (pe_callD D2 hr (pa_cons (pv 3) (pa_cons (pv 0) (pa_cons (pv 1) pa_nil)))) (pe_callD D2 hr (pa_cons (pv 2) (pa_cons (pv 0) (pa_cons (pv 1) pa_nil)))) (nomark _)) (pss_one (ps_set (i := 2) scMC.nd rfl (Or.inl rfl) (pv 3))) pss_nil)))
    (pss_one (ps_ret (pv 2)))), ?_⟩
  obtain ⟨ts, htl, hts⟩ := id ho
  refine ⟨(by show 0 ≤ sizeLine; decide), fun e he => ?_⟩
  have s0 := same_new he (.lst [])
  refine ⟨_, rfl, lo, _, rfl, .inl (SqL.of (s0 _ _ htl)), sh.moulds.length, by rw [List.length_map, hts.len]; rfl, o5, fun H1 L as hL0 hL hn s1 => ?_⟩
  have hlen := hn.len
  have sl := sets_len sh.moulds.length
  refine ⟨L, rfl, ⟨_, SqL.of hL⟩, ?_⟩
  have hin : ∀ i, ((sets sh.moulds.length).take i).foldl (covStep sh) [] ∈ sets sh.moulds.length := fun i => fold_in (cov_pick sh) _ _ (nil_in _) fun x m => List.mem_of_mem_take m
  have so : ∀ (H' : Hp) (c : Addr) (cs : List Nat), Same H H' → cs ∈ sets sh.moulds.length → H' c = some (.lst (natV cs)) → SetsOf K H' c lo lm sh cs := fun H' c cs q m hc =>
    ⟨SqL.of hc, ho.same q, hm.same q, by have := sets5 m; omega, sets_lt m, o5, m5⟩
  have s01 := s0.trans s1
  refine for_list (K := K) (a := L) (xs := as.map V.ref) (fun i σ H' => ∃ (b : Addr) (v : Option V), σ = [some (.ref lo), some (.ref lm), some (.ref b), v] ∧ Same H1 H' ∧ H' b = some (.lst (natV (((sets sh.moulds.length).take i).foldl (covStep sh) []))))
    ⟨e, _, rfl, fun _ _ z => z, s1 _ _ upd_same⟩ (fun i σ H' _ q => by obtain ⟨_, _, _, s2, _⟩ := q; exact SqL.of (s2 _ _ hL)) ?_ ?_
  · rintro i x σ H' hx ⟨b, v, rfl, s2, hb⟩
    rw [List.getElem?_map] at hx
    obtain ⟨c, hc, rfl⟩ := Option.map_eq_some_iff.mp hx
    have hi : i < (sets sh.moulds.length).length := by
      have := (List.getElem?_eq_some_iff.mp hc).1
      omega
    obtain ⟨cs, hcs⟩ := get_some hi
    obtain ⟨c', hc', hcu⟩ := hn.get hcs
    rw [hc] at hc'
    cases hc'
    have hmem := List.mem_of_getElem? hcs
    have et : ((sets sh.moulds.length).take (i + 1)).foldl (covStep sh) [] = covStep sh (((sets sh.moulds.length).take i).foldl (covStep sh) []) cs := by
      rw [take_more hcs, List.foldl_append]
      rfl
    rw [et]
    have hm2 := hin i
    generalize ((sets sh.moulds.length).take i).foldl (covStep sh) [] = bs at *
    refine ⟨_, rfl, _, rfl, _, rfl, c, lo, lm, sh, cs, rfl, so H' c cs (s01.trans s2) hmem (s2 _ _ hcu), fun H3 s3 => ?_⟩
    refine ⟨_, rfl, _, rfl, _, rfl, b, lo, lm, sh, bs, rfl, so H3 b bs (s01.trans (s2.trans s3)) hm2 (s3 _ _ hb), fun H4 s4 => ?_⟩
    have s24 := s2.trans (s3.trans s4)
    refine ⟨_, _, rfl, rfl, _, rfl, ?_⟩
    refine ite_bool (fun z => ?_) (fun z => ?_)
    · have z' := of_decide_eq_true z
      refine ⟨_, rfl, c, _, rfl, s24, ?_⟩
      unfold covStep
      rw [if_pos (by omega)]
      exact s24 _ _ hcu
    · have z' := of_decide_eq_false z
      refine ⟨b, _, rfl, s24, ?_⟩
      unfold covStep
      rw [if_neg (by omega)]
      exact s4 _ _ (s3 _ _ hb)
  · rintro σ H' ⟨b, v, rfl, s2, hb⟩
    rw [List.length_map, hlen, List.take_length] at hb
    exact ⟨_, rfl, k H' b hb (s01.trans s2)⟩
end
end Mp
/-! Jd -/
set_option Elab.async false
set_option maxRecDepth 100000
set_option maxHeartbeats 4000000
namespace Mp
open PySem PySem.Spec PyProof.Rows L2
open Sr117 (Shop Rating)
abbrev sTruth : Stmt := top 47
abbrev sIdxSet : Stmt := top 48
abbrev sAreE : Stmt := top 49
abbrev sCounted : Stmt := top 59
def spTruth : Sp := fun vs H Q _ => ∃ b : Bool, vs = [.bl b] ∧ Q (.int (SrCommon.boolToInt b)) H
def spIdxSet (K : PySem.W.Frag) : Sp := fun vs H Q _ => ∃ (a b : Addr) (xs : List V) (is : List Int), vs = [.ref a, .ref b] ∧ SqL K H a xs ∧ SqL K H b (is.map V.int) ∧ is.length ≤ 70 ∧
  ∀ H', Same H H' → Q (.bl (is.all (fun i => idx i xs.length) && decide is.Nodup)) H'
def areE (s : Shop) (es : List Int) : Bool := decide (es.length = s.moulds.length) && es.all fun x => decide (x = -1) || idx x s.machines.length
def spAreE (K : PySem.W.Frag) (C : Addr) : Sp := fun vs H Q _ => ∃ (a i lm lo : Addr) (es : List Int) (s : Shop), vs = [.ref a, .ref i] ∧ SqL K H a (es.map V.int) ∧ es.length ≤ 70 ∧ InstAt C H i lm lo s ∧
  ∀ H', Same H H' → Q (.bl (areE s es)) H'
theorem areE_iff (s : Shop) (es : List Int) : areE s es = false ↔ (es.length ≠ s.moulds.length ∨ (es.any fun x => decide (x < -1) || decide ((s.machines.length : Int) ≤ x)) = true) := by
  unfold areE
  rw [Bool.and_eq_false_iff, decide_eq_false_iff_not]
  refine or_congr Iff.rfl ?_
  rw [List.all_eq_false, List.any_eq_true]
  refine exists_congr fun x => and_congr_right fun _ => ?_
  rw [Bool.or_eq_true, Bool.or_eq_true, decide_eq_true_iff, decide_eq_true_iff, decide_eq_true_iff, idx_iff]
  omega
theorem areE_true {s : Shop} {es : List Int} (h : areE s es = true) : es.length = s.moulds.length ∧ ∀ x ∈ es, -1 ≤ x ∧ x < (s.machines.length : Int) := by
  unfold areE at h
  rw [Bool.and_eq_true, decide_eq_true_iff, List.all_eq_true] at h
  refine ⟨h.1, fun x m => ?_⟩
  have := h.2 x m
  rw [Bool.or_eq_true, decide_eq_true_iff, idx_iff] at this
  omega
def ratsV (rs : List Rating) : List Int := (rs.length : Int) :: rs.flatMap Sr117.ratingValues
def spCounted : Sp := fun vs H Q _ => ∃ (l : Addr) (rs : List Rating), vs = [.ref l] ∧ RatL H l rs ∧ rs.length ≤ 5 ∧
  ∀ H' p, H p = none → H' p = some (.lst ((ratsV rs).map V.int)) → Same H H' → Q (.ref p) H'
theorem flat_len : ∀ rs : List Rating, (rs.flatMap Sr117.ratingValues).length = 2 * rs.length
  | [] => rfl
  | r :: rs => by
    rw [List.flatMap_cons, List.length_append, flat_len rs, List.length_cons]
    show 2 + _ = _
    omega
section
variable {P : Program} {w : World} {K : PySem.W.Frag} {mg : Str → Option Value} {base : Heap} {f CI : Addr} {fd : FuncData}
theorem scTr : FnScope ["truth"] ["truth"] (defScope sTruth) := ⟨rfl, rfl, rfl, by decide +kernel, rfl, by decide +kernel, by decide +kernel⟩
theorem ok_truth (F : Fun K "truth_number" "truth_number" sTruth f fd) : FnOk P w K mg base CX0 1 f fd ["truth"] spTruth := by
  refine F.ok scTr (fun vs H Q E h => ?_) (fun cdv A outer s H vs Q E hr h => ?_)
  · obtain ⟨b, rfl, _⟩ := h
    rfl
  obtain ⟨b, rfl, k⟩ := h
  refine ⟨_, pss_one (ps_ret (pe_ifExp (pt_val (pv 0)) pe_int pe_int)), ?_⟩
  refine ⟨_, rfl, b, rfl, ?_⟩
  cases b with
  | true => exact k
  | false => exact k
theorem scIS : FnScope ["ratings", "indices", "index"] ["ratings", "indices"] (defScope sIdxSet) := ⟨rfl, rfl, rfl, by decide +kernel, rfl, by decide +kernel, by decide +kernel⟩
theorem ok_idxSet (F : Fun K "is_index_set" "is_index_set" sIdxSet f fd) (ma : mg "all" = none) (ml : mg "len" = none) (ms : mg "set" = none) (D1 : Def P w K mg base 1 "is_index" ["ratings", "index"] (spIdx K)) : FnOk P w K mg base CX0 2 f fd ["ratings", "indices"] (spIdxSet K) := by
  refine F.ok scIS (fun vs H Q E h => ?_) (fun cdv A outer s H vs Q E hr h => ?_)
  · obtain ⟨a, b, xs, is, rfl, _⟩ := h
    rfl
  obtain ⟨a, b, xs, is, rfl, ha, hb, h70, k⟩ := h
  refine ⟨_, pss_one (ps_ret (pe_and (pe_callB (cr_all rfl) rfl ma (by decide +kernel) (pa_cons (pe_lc (own := [("index", 2)]) (g := gName 2) (tt := tYes) (te := tCall (spIdx K) [] E0 (tCons (tVar 0) (tCons (tVar 2) tNil))) rfl scIS.nd (pi_list (pv 1)) (blkOk_by (own := [("index", 2)]) (N := ["ratings", "indices", "index"]) (sc := defScope sIdxSet) (by decide +kernel))
      (fun _ _ _ _ _ => pg_name (i := 2) scIS.nd rfl (Or.inl rfl)) (fun _ _ _ _ _ => pts_nil) (fun _ _ _ _ _ => pe_callD D1 hr (pa_cons (pv 0) (pa_cons (pv 2) pa_nil)))) pa_nil))
    (pe_one (pe_cmpR op_eq (pe_lenSetD rfl ml rfl ms (pv 1)) (pe_callB call_len_seq rfl ml PySem.boot_len (pa_cons (pv 1) pa_nil)) (nomark _))))), ?_⟩
  refine ⟨_, rfl, b, rfl, ⟨_, hb⟩, fun D hD => ?_⟩
  refine lc_list (K := K) (a := b) (xs := is.map V.int) (fun i H' => Same H H' ∧ H' D = some (.lst (((is.take i).map fun i => idx i xs.length).map V.bl))) ⟨same_new hD _, upd_same⟩ (fun i H' _ z => z.1.seq hb) ?_ ?_
  · rintro i x H' hi ⟨s1, d1⟩
    rw [List.getElem?_map] at hi
    obtain ⟨j, hj, rfl⟩ := Option.map_eq_some_iff.mp hi
    refine ⟨rfl, ?_⟩
    refine ⟨_, rfl, _, rfl, a, xs, j, rfl, s1.seq ha, ?_⟩
    refine ⟨_, d1, small1000 (by rw [List.length_map, List.length_map, List.length_take]; omega), fun b o e => ?_, ?_⟩
    · rw [upd_ne (ne_of_none e hD)]
      exact s1 _ _ e
    · rw [upd_same, take_more hj, List.map_append, List.map_append]
      rfl
  · rintro H' ⟨s1, d1⟩
    rw [List.length_map, List.take_length] at d1
    refine ⟨D, _, rfl, SqL.of d1, _, rfl, ?_⟩
    have e : ((is.map fun i => idx i xs.length).all id) = is.all fun i => idx i xs.length := by
      rw [List.all_map]; rfl
    rw [e]
    have kk := k H' s1
    refine ite_bool (fun c => ?_) (fun c => ?_)
    · rw [c, Bool.true_and] at kk
      refine ⟨_, rfl, b, is, rfl, s1.seq hb, by omega, _, rfl, b, _, rfl, .inl (s1.seq hb), rfl, ?_⟩
      rw [List.length_map, dec_int]
      have e2 : decide (((distinct is).length : Int) = ((is.length : Nat) : Int)) = decide is.Nodup := decide_eq_decide.mpr (by rw [← distinct_iff]; omega)
      rw [e2]
      exact kk
    · rw [c] at kk
      exact kk
theorem scAE : FnScope ["entries", "instance", "entry"] ["entries", "instance"] (defScope sAreE) := ⟨rfl, rfl, rfl, by decide +kernel, rfl, by decide +kernel, by decide +kernel⟩
theorem ok_areE (F : Fun K "are_entries" "are_entries" sAreE f fd) (TI : TInst K CI) (ma : mg "all" = none) (ml : mg "len" = none) (m1 : Num mg "NOT_RUNNING" (-1)) (D1 : Def P w K mg base 1 "is_index" ["ratings", "index"] (spIdx K)) : FnOk P w K mg base CX0 2 f fd ["entries", "instance"] (spAreE K CI) := by
  refine F.ok scAE (fun vs H Q E h => ?_) (fun cdv A outer s H vs Q E hr h => ?_)
  · obtain ⟨a, i, lm, lo, es, s, rfl, _⟩ := h
    rfl
  obtain ⟨a, i, lm, lo, es, sh, rfl, ha, h70, I, k⟩ := h
  refine ⟨_, pss_cons (ps_if (pt_cmpR op_ne (pe_callB call_len_seq rfl ml PySem.boot_len (pa_cons (pv 0) pa_nil)) (pe_callB call_len_seq rfl ml PySem.boot_len (pa_cons (pe_fld (pv 1) rfl) pa_nil)) (nomark _)) (pss_one (ps_ret pe_bl)) pss_nil)
    (pss_one (ps_ret (pe_callB (cr_all rfl) rfl ma (by decide +kernel) (pa_cons (pe_lc (own := [("entry", 2)]) (g := gName 2) (tt := tYes) (te := tOrV (tOp rEq (tVar 2) (tC (.int (-1)))) (tCall (spIdx K) [] E0 (tCons (tFld K (tVar 1) "machines") (tCons (tVar 2) tNil)))) rfl scAE.nd (pi_list (pv 0)) (blkOk_by (own := [("entry", 2)]) (N := ["entries", "instance", "entry"]) (sc := defScope sAreE) (by decide +kernel))
      (fun _ _ _ _ _ => pg_name (i := 2) scAE.nd rfl (Or.inl rfl)) (fun _ _ _ _ _ => pts_nil) (fun _ _ _ _ _ => pe_or (pe_cmpR op_eq (pv 2) (pe_num m1) (nomark _)) (pe_one (pe_callD D1 hr (pa_cons (pe_fld (pv 1) rfl) (pa_cons (pv 2) pa_nil)))))) pa_nil)))), ?_⟩
  obtain ⟨dx, hob⟩ := I.ob
  obtain ⟨ts, htl, hts⟩ := id I.mo
  obtain ⟨us, hul, hus⟩ := id I.ma
  refine ⟨_, rfl, a, _, rfl, .inl ha, _, rfl, i, CI, dx, _, _, rfl, hob, TI.cl, TI.n2, iF_mo _ _, lo, _, rfl, .inl (SqL.of htl), rfl, _, rfl, ?_⟩
  rw [List.length_map, List.length_map, hts.len, dec_int]
  have ed : decide (((es.length : Nat) : Int) = ((sh.moulds.length : Nat) : Int)) = decide (es.length = sh.moulds.length) := decide_eq_decide.mpr (by omega)
  rw [ed]
  unfold areE at k
  refine ite_bool (fun c => ?_) (fun c => ?_)
  · rw [of_not_t c] at k
    exact k H fun _ _ e => e
  · rw [of_not_f c, Bool.true_and] at k
    refine ⟨_, rfl, a, rfl, ⟨_, ha⟩, fun D hD => ?_⟩
    refine lc_list (K := K) (a := a) (xs := es.map V.int) (fun i H' => Same H H' ∧ H' D = some (.lst (((es.take i).map fun x => decide (x = -1) || idx x sh.machines.length).map V.bl))) ⟨same_new hD _, upd_same⟩ (fun i H' _ z => z.1.seq ha) ?_ ?_
    · rintro n x H' hi ⟨s1, d1⟩
      rw [List.getElem?_map] at hi
      obtain ⟨j, hj, rfl⟩ := Option.map_eq_some_iff.mp hi
      have step : ∀ v : Bool, (decide (j = -1) || idx j sh.machines.length) = v → ∃ acc, H' D = some (.lst acc) ∧ acc.length < sizeLine ∧ (Same H (upd H' D (.lst (acc ++ [.bl v]))) ∧ upd H' D (.lst (acc ++ [.bl v])) D = some (.lst (((es.take (n + 1)).map fun x => decide (x = -1) || idx x sh.machines.length).map V.bl))) := by
        intro v ev
        refine ⟨_, d1, small1000 (by rw [List.length_map, List.length_map, List.length_take]; omega), fun b o e => ?_, ?_⟩
        · rw [upd_ne (ne_of_none e hD)]
          exact s1 _ _ e
        · rw [upd_same, take_more hj, List.map_append, List.map_append, List.map_singleton, ev]
          rfl
      refine ⟨rfl, ?_⟩
      refine ⟨_, rfl, rfl, _, rfl, ?_⟩
      rw [dec_int]
      refine ite_bool (fun c2 => ?_) (fun c2 => ?_)
      · exact step true (by rw [c2]; rfl)
      · refine ⟨_, rfl, i, CI, dx, _, _, rfl, s1 _ _ hob, TI.cl, TI.n1, iF_ma _ _, _, rfl, lm, _, j, rfl, SqL.of (s1 _ _ hul), ?_⟩
        rw [List.length_map, hus.len]
        exact step _ (by rw [c2]; rfl)
    · rintro H' ⟨s1, d1⟩
      rw [List.length_map, List.take_length] at d1
      have e : (es.all fun x => decide (x = -1) || idx x sh.machines.length) = (es.map fun x => decide (x = -1) || idx x sh.machines.length).all id := by
        rw [List.all_map]; rfl
      rw [e] at k
      exact ⟨D, _, rfl, SqL.of d1, k H' s1⟩
theorem scCt : FnScope ["ratings", "found", "rating"] ["ratings"] (defScope sCounted) := ⟨rfl, rfl, rfl, by decide +kernel, rfl, by decide +kernel, by decide +kernel⟩
theorem ok_counted (F : Fun K "counted_ratings" "counted_ratings" sCounted f fd) (ml : mg "len" = none) : FnOk P w K mg base CX0 1 f fd ["ratings"] spCounted := by
  refine F.ok scCt (fun vs H Q E h => ?_) (fun cdv A outer s H vs Q E hr h => ?_)
  · obtain ⟨l, rs, rfl, _⟩ := h
    rfl
  obtain ⟨l, rs, rfl, hl, h5, k⟩ := h
  refine ⟨_, pss_cons (ps_set (i := 1) scCt.nd rfl (Or.inl rfl) (pe_lst (pa_cons (pe_callB call_len_seq rfl ml PySem.boot_len (pa_cons (pv 0) pa_nil)) pa_nil)))
    (pss_cons (ps_for PassesOwn.never rfl (pi_list (pv 0)) (pg_name (i := 2) scCt.nd rfl (Or.inl rfl))
      (pss_cons (ps_expr (pe_bm PySem.F.plainAttrs_list PySem.F.slot_list_append PySem.F.type_list_append mt_append (pv 1) (pa_cons (pe_ix ix_tup (pv 2) pe_int (fun _ _ => rfl)) pa_nil)))
      (pss_one (ps_expr (pe_bm PySem.F.plainAttrs_list PySem.F.slot_list_append PySem.F.type_list_append mt_append (pv 1) (pa_cons (pe_ix ix_tup (pv 2) pe_int (fun _ _ => rfl)) pa_nil))))))
    (pss_one (ps_ret (pv 1)))), ?_⟩
  obtain ⟨ts, htl, hts⟩ := id hl
  have hlen := hts.len
  refine ⟨_, rfl, l, _, rfl, .inl (SqL.of htl), (by show 1 ≤ sizeLine; decide), fun g hg => ?_⟩
  refine ⟨_, rfl, l, rfl, ⟨_, SqL.of (same_new hg _ _ _ htl)⟩, ?_⟩
  refine for_list (K := K) (a := l) (xs := ts.map V.ref) (fun i σ H' => ∃ v : Option V, σ = [some (.ref l), some (.ref g), v] ∧ Same H H' ∧ H' g = some (.lst (((rs.length : Int) :: (rs.take i).flatMap Sr117.ratingValues).map V.int)))
    ⟨_, rfl, same_new hg _, by rw [upd_same, List.length_map, hlen]; rfl⟩ (fun i σ H' _ q => by obtain ⟨_, _, s2, _⟩ := q; exact SqL.of (s2 _ _ htl)) ?_ ?_
  · rintro i x σ H' hx ⟨v, rfl, s2, hg2⟩
    rw [List.getElem?_map] at hx
    obtain ⟨t, ht, rfl⟩ := Option.map_eq_some_iff.mp hx
    have hi : i < rs.length := by
      have := (List.getElem?_eq_some_iff.mp ht).1
      omega
    obtain ⟨r, hr1⟩ := get_some hi
    obtain ⟨t', ht', hrt⟩ := hts.get hr1
    rw [ht] at ht'
    cases ht'
    have fl := flat_len (rs.take i)
    rw [List.length_take] at fl
    have s3 : ∀ {H2 : Hp} (o : HO), Same H H2 → Same H (upd H2 g o) := fun o q b u e => by rw [upd_ne (ne_of_none e hg)]; exact q _ _ e
    refine ⟨_, rfl, .inl ⟨rfl, _, SqL.of hg2⟩, _, rfl, t, _, _, _, rfl, rfl, SqT.of (s2 _ _ hrt), rfl, g, _, _, rfl, rfl, hg2, small1000 (by rw [List.length_map, List.length_cons, fl]; omega), ?_⟩
    refine ⟨_, rfl, .inl ⟨rfl, _, SqL.of upd_same⟩, _, rfl, t, _, _, _, rfl, rfl, SqT.of (s3 _ s2 _ _ hrt), rfl, g, _, _, rfl, rfl, upd_same, small1000 (by rw [List.length_append, List.length_map, List.length_cons, fl]; show _ + 1 ≤ 1000; omega), ?_⟩
    refine ⟨_, rfl, s3 _ (s3 _ s2), ?_⟩
    rw [upd_same, take_more hr1, List.flatMap_append]
    show some (HO.lst _) = some (HO.lst _)
    congr 2
    rw [List.map_cons, List.map_cons, List.map_append, List.append_assoc]
    rfl
  · rintro σ H' ⟨v, rfl, s2, hg2⟩
    rw [List.length_map, hlen, List.take_length] at hg2
    exact ⟨_, rfl, k H' g hg hg2 s2⟩
end
end Mp
/-! Je -/
set_option Elab.async false
set_option maxRecDepth 100000
set_option maxHeartbeats 4000000
namespace Mp
open PySem PySem.Spec PyProof.Rows L2
open Sr117 (Shop Rating)
abbrev sAnsFits : Stmt := top 50
abbrev sAnsMax : Stmt := top 51
abbrev sAnsBest : Stmt := top 52
abbrev sAnsCov : Stmt := top 53
abbrev sAnsDef : Stmt := top 54
abbrev sAnsChA : Stmt := top 55
abbrev sAnsChC : Stmt := top 56
abbrev sAnsNb : Stmt := top 57
abbrev sAnsWo : Stmt := top 58
abbrev sAnsList : Stmt := top 60
theorem ints_nat : ∀ {l : List Int}, (∀ x ∈ l, 0 ≤ x) → l.map V.int = natV (SrCommon.intsToNats l)
  | [], _ => rfl
  | x :: l, h => by
    have ih := ints_nat (l := l) fun y m => h y (List.mem_cons_of_mem _ m)
    have hx := h x (List.mem_cons_self ..)
    rw [List.map_cons, ih]
    show V.int x :: _ = V.int ((x.toNat : Nat) : Int) :: _
    rw [Int.toNat_of_nonneg hx]
    rfl
/-- a checked list of indices -/
theorem idx_set {n : Nat} {l : List Int} (h : (l.all (fun i => idx i n) && decide l.Nodup) = true) : l.map V.int = natV (SrCommon.intsToNats l) ∧ (∀ i ∈ SrCommon.intsToNats l, i < n) ∧ (SrCommon.intsToNats l).length = l.length := by
  rw [Bool.and_eq_true, List.all_eq_true] at h
  refine ⟨ints_nat fun x m => (idx_iff.mp (h.1 x m)).1, fun i m => ?_, List.length_map _⟩
  obtain ⟨x, hx, rfl⟩ := List.mem_map.mp m
  have := idx_iff.mp (h.1 x hx)
  omega
theorem mset_is (s : Shop) (l : List Int) : Sr117.isMouldSet s l = (l.all (fun i => idx i s.moulds.length) && decide l.Nodup) := rfl
theorem jset_is (s : Shop) (l : List Int) : Sr117.isMachineSet s l = (l.all (fun i => idx i s.machines.length) && decide l.Nodup) := rfl
section
variable {P : Program} {w : World} {K : PySem.W.Frag} {mg : Str → Option Value} {base : Heap} {f CI CC : Addr} {fd : FuncData}
theorem scAF : FnScope ["instance", "call", "i", "j"] ["instance", "call"] (defScope sAnsFits) := ⟨rfl, rfl, rfl, by decide +kernel, rfl, by decide +kernel, by decide +kernel⟩
theorem ok_ansFits (F : Fun K "answer_fits" "answer_fits" sAnsFits f fd) (TI : TInst K CI) (TC : TCall K CC) (m1 : Num mg "NO_SUCH_INDEX" (-2)) (D1 : Def P w K mg base 1 "is_index" ["ratings", "index"] (spIdx K)) (D2 : Def P w K mg base 1 "fits" ["mould", "machine"] spFits) (D3 : Def P w K mg base 1 "truth_number" ["truth"] spTruth) :
    FnOk P w K mg base CX0 2 f fd ["instance", "call"] (spQ CI CC 7) := by
  refine F.ok scAF (fun vs H Q E h => ?_) (fun cdv A outer s H vs Q E hr h => ?_)
  · obtain ⟨H0, a, lm, lo, c, s, n, ns, xs, rfl, _⟩ := h
    rfl
  obtain ⟨H0, a, lm, lo, c, s, n, ns, xs, rfl, I, ap, hc, ⟨rfl, ok⟩, q⟩ := h
  obtain ⟨e1, e2⟩ := ok0 ok rfl
  obtain ⟨i, j, rfl⟩ := len2 e1
  have := len0 e2
  subst this
  obtain ⟨dc, ln, lr, as, c1, c2, c3, c4⟩ := hc.ex
  have k := query_end I (due_fits s i j) q
  obtain ⟨dx, ho⟩ := I.ob
  obtain ⟨ts, hl, hts⟩ := id I.ma
  obtain ⟨us, hm, hus⟩ := id I.mo
  have h1 := ap.le _ _ c1
  have h2 := ap.le _ _ c2
  refine ⟨_, pss_cons (ps_set (i := 2) scAF.nd rfl (Or.inl rfl) (pe_ix ix_list (pe_fld (pv 1) rfl) pe_int (fun _ _ => rfl)))
    (pss_cons (ps_set (i := 3) scAF.nd rfl (Or.inl rfl) (pe_ix ix_list (pe_fld (pv 1) rfl) pe_int (fun _ _ => rfl)))
    (pss_cons (ps_if (PW.pt (pw_or (pt_not (pt_val (pe_callD D1 hr (pa_cons (pe_fld (pv 0) rfl) (pa_cons (pv 2) pa_nil))))) (pw_or1 (pt_not (pt_val (pe_callD D1 hr (pa_cons (pe_fld (pv 0) rfl) (pa_cons (pv 3) pa_nil)))))))) (pss_one (ps_ret (pe_lst (pa_cons (pe_num m1) pa_nil)))) pss_nil)
    (pss_one (ps_ret (pe_lst (pa_cons (pe_callD D3 hr (pa_cons (pe_callD D2 hr (pa_cons (pe_ix ix_list (pe_fld (pv 0) rfl) (pv 2) (fun _ _ => rfl)) (pa_cons (pe_ix ix_list (pe_fld (pv 0) rfl) (pv 3) (fun _ _ => rfl)) pa_nil))) pa_nil)) pa_nil)))))), ?_⟩
  refine ⟨_, rfl, c, CC, dc, _, _, rfl, h1, TC.cl, TC.n2, cF_ns _ _ _, ln, _, _, .int i, rfl, rfl, SqL.of h2, rfl, ?_⟩
  refine ⟨_, rfl, c, CC, dc, _, _, rfl, h1, TC.cl, TC.n2, cF_ns _ _ _, ln, _, _, .int j, rfl, rfl, SqL.of h2, rfl, ?_⟩
  refine ⟨_, rfl, a, CI, dx, _, _, rfl, ho, TI.cl, TI.n2, iF_mo _ _, _, rfl, lo, _, i, rfl, SqL.of hm, _, rfl, ?_⟩
  have bad : ∀ b : Bool, (idx i s.moulds.length && idx j s.machines.length) = b → b = false → tRet (tLst (tCons (tC (.int (-2))) tNil)) { nx := fun _ H' => Q .non H', rt := Q } [some (.ref a), some (.ref c), some (.int i), some (.int j)] H := fun b eb hb => by
    rw [eb, hb, if_neg Bool.false_ne_true] at k
    exact ⟨(by show 1 ≤ sizeLine; decide), fun p hp => k p _ hp upd_same (same_new hp _)⟩
  rw [List.length_map, hus.len]
  refine ite_bool (fun z => ?_) (fun z => ?_)
  · refine if_true_of rfl ?_
    exact bad _ rfl (by rw [of_not_t z]; rfl)
  · refine ⟨_, rfl, a, CI, dx, _, _, rfl, ho, TI.cl, TI.n1, iF_ma _ _, _, rfl, lm, _, j, rfl, SqL.of hl, _, rfl, ?_⟩
    rw [List.length_map, hts.len]
    refine ite_bool (fun z2 => ?_) (fun z2 => ?_)
    · exact bad _ rfl (by rw [of_not_t z2, Bool.and_false])
    · have i1 := of_not_f z
      have i2 := of_not_f z2
      rw [i1, i2] at k
      obtain ⟨i0, il⟩ := idx_iff.mp i1
      obtain ⟨j0, jl⟩ := idx_iff.mp i2
      obtain ⟨r, hr1⟩ := get_some (xs := s.moulds) (i := i.toNat) (by omega)
      obtain ⟨q1, hr2⟩ := get_some (xs := s.machines) (i := j.toNat) (by omega)
      obtain ⟨u, hu1, hu2⟩ := hus.get hr1
      obtain ⟨t, ht1, ht2⟩ := hts.get hr2
      refine ⟨_, rfl, a, CI, dx, _, _, rfl, ho, TI.cl, TI.n2, iF_mo _ _, _, rfl, lo, _, _, .ref u, rfl, rfl, SqL.of hm, atI_of i0 (by rw [List.getElem?_map, hu1]; rfl), _, rfl, a, CI, dx, _, _, rfl, ho, TI.cl, TI.n1, iF_ma _ _, _, rfl, lm, _, _, .ref t, rfl, rfl, SqL.of hl, atI_of j0 (by rw [List.getElem?_map, ht1]; rfl), u, t, r, q1, rfl, hu2, ht2, _, rfl, ?_⟩
      rw [fits_at hr1 hr2] at k
      exact ⟨(by show 1 ≤ sizeLine; decide), fun p hp => k p _ hp upd_same (same_new hp _)⟩
theorem scAM : FnScope ["instance", "call"] ["instance", "call"] (defScope sAnsMax) := ⟨rfl, rfl, rfl, by decide +kernel, rfl, by decide +kernel, by decide +kernel⟩
theorem ok_ansMax (F : Fun K "answer_max_running" "answer_max_running" sAnsMax f fd) (TI : TInst K CI) (D1 : Def P w K mg base 7 "count_running" ["moulds", "machines"] spCount) :
    FnOk P w K mg base CX0 8 f fd ["instance", "call"] (spQ CI CC 8) := by
  refine F.ok scAM (fun vs H Q E h => ?_) (fun cdv A outer s H vs Q E hr h => ?_)
  · obtain ⟨H0, a, lm, lo, c, s, n, ns, xs, rfl, _⟩ := h
    rfl
  obtain ⟨H0, a, lm, lo, c, s, n, ns, xs, rfl, I, ap, hc, ⟨rfl, ok⟩, q⟩ := h
  obtain ⟨e1, e2⟩ := ok0 ok rfl
  have := len0 e1
  subst this
  have := len0 e2
  subst this
  have k := query_end I (due_max s) q
  obtain ⟨dx, ho⟩ := I.ob
  refine ⟨_, pss_one (ps_ret (pe_lst (pa_cons (pe_callD D1 hr (pa_cons (pe_fld (pv 0) rfl) (pa_cons (pe_fld (pv 0) rfl) pa_nil))) pa_nil))), ?_⟩
  refine ⟨_, rfl, a, CI, dx, _, _, rfl, ho, TI.cl, TI.n2, iF_mo _ _, _, rfl, a, CI, dx, _, _, rfl, ho, TI.cl, TI.n1, iF_ma _ _, lo, lm, s, rfl, I.mo, I.ma, I.o5, I.m5, fun H' s1 => ?_⟩
  refine ⟨(by show 1 ≤ sizeLine; decide), fun p hp => ?_⟩
  exact k p _ (s1.free hp) upd_same (s1.trans (same_new hp _))
theorem scAB : FnScope ["instance", "call", "entries"] ["instance", "call"] (defScope sAnsBest) := ⟨rfl, rfl, rfl, by decide +kernel, rfl, by decide +kernel, by decide +kernel⟩
theorem ok_ansBest (F : Fun K "answer_best_assignment" "answer_best_assignment" sAnsBest f fd) (TI : TInst K CI) (D1 : Def P w K mg base 10 "best_assignment" ["moulds", "machines"] spBestA) (D2 : Def P w K mg base 2 "assignment_size" ["entries"] (spSize K)) :
    FnOk P w K mg base CX0 11 f fd ["instance", "call"] (spQ CI CC 9) := by
  refine F.ok scAB (fun vs H Q E h => ?_) (fun cdv A outer s H vs Q E hr h => ?_)
  · obtain ⟨H0, a, lm, lo, c, s, n, ns, xs, rfl, _⟩ := h
    rfl
  obtain ⟨H0, a, lm, lo, c, s, n, ns, xs, rfl, I, ap, hc, ⟨rfl, ok⟩, q⟩ := h
  obtain ⟨e1, e2⟩ := ok0 ok rfl
  have := len0 e1
  subst this
  have := len0 e2
  subst this
  have k := query_end I (due_best s) q
  obtain ⟨dx, ho⟩ := I.ob
  refine ⟨_, pss_cons (ps_set (i := 2) scAB.nd rfl (Or.inl rfl) (pe_callD D1 hr (pa_cons (pe_fld (pv 0) rfl) (pa_cons (pe_fld (pv 0) rfl) pa_nil))))
    (pss_one (ps_ret (pe_op op_cat (pe_lst (pa_cons (pe_callD D2 (hr.mono (by decide)) (pa_cons (pv 2) pa_nil)) pa_nil)) (pv 2)))), ?_⟩
  refine ⟨_, rfl, a, CI, dx, _, _, rfl, ho, TI.cl, TI.n2, iF_mo _ _, _, rfl, a, CI, dx, _, _, rfl, ho, TI.cl, TI.n1, iF_ma _ _, lo, lm, s, rfl, I.mo, I.ma, I.o5, I.m5, fun H1 e he0 he s1 => ?_⟩
  have bl : (Sr117.bestAssignment s).length ≤ 5 := by
    rw [← greedy_is, greedy_len]
    exact I.o5
  refine ⟨_, rfl, e, enc (Sr117.bestAssignment s), rfl, SqL.of he, by rw [enc_len]; omega, fun H2 s2 => ?_⟩
  refine ⟨(by show 1 ≤ sizeLine; decide), fun l hl => ?_⟩
  have s3 := s2.trans (same_new hl (.lst [.int ((runE (enc (Sr117.bestAssignment s))).length : Nat)]))
  refine ⟨_, rfl, l, e, _, _, rfl, rfl, upd_same, s3 _ _ he, small (by rw [List.length_map, enc_len]; show 1 + _ ≤ 1000; omega), fun p hp => ?_⟩
  refine k p _ (s1.free (s3.free hp)) ?_ (s1.trans (s3.trans (same_new hp _)))
  rw [upd_same, enc_size]
  rfl
theorem scAC : FnScope ["instance", "call", "chosen", "taken"] ["instance", "call"] (defScope sAnsCov) := ⟨rfl, rfl, rfl, by decide +kernel, rfl, by decide +kernel, by decide +kernel⟩
theorem best_in (s : Shop) : bestCov s ∈ sets s.moulds.length := fold_in (cov_pick s) _ _ (nil_in _) fun _ m => m
theorem bestD_in (s : Shop) : bestDef s ∈ sets s.moulds.length := fold_in (def_pick s) _ _ (nil_in _) fun _ m => m
theorem ok_ansCov (F : Fun K "answer_minimum_cover" "answer_minimum_cover" sAnsCov f fd) (TI : TInst K CI) (ml : mg "len" = none) (D1 : Def P w K mg base 6 "minimum_cover_moulds" ["moulds", "machines"] (spPick bestCov)) (D2 : Def P w K mg base 4 "machines_to_cover" ["chosen", "moulds", "machines"] (spNb K rest)) :
    FnOk P w K mg base CX0 7 f fd ["instance", "call"] (spQ CI CC 10) := by
  refine F.ok scAC (fun vs H Q E h => ?_) (fun cdv A outer s H vs Q E hr h => ?_)
  · obtain ⟨H0, a, lm, lo, c, s, n, ns, xs, rfl, _⟩ := h
    rfl
  obtain ⟨H0, a, lm, lo, c, s, n, ns, xs, rfl, I, ap, hc, ⟨rfl, ok⟩, q⟩ := h
  obtain ⟨e1, e2⟩ := ok0 ok rfl
  have := len0 e1
  subst this
  have := len0 e2
  subst this
  have k := query_end I (due_cover s) q
  rw [cov_is] at k
  obtain ⟨dx, ho⟩ := I.ob
  have hb := best_in s
  have hb5 := sets5 hb
  have hr5 := nb_len s (others s.moulds.length (bestCov s))
  have o5 := I.o5
  have m5 := I.m5
  refine ⟨_, pss_cons (ps_set (i := 2) scAC.nd rfl (Or.inl rfl) (pe_callD D1 hr (pa_cons (pe_fld (pv 0) rfl) (pa_cons (pe_fld (pv 0) rfl) pa_nil))))
    (pss_cons (ps_set (i := 3) scAC.nd rfl (Or.inl rfl) (pe_callD D2 (hr.mono (by decide)) (pa_cons (pv 2) (pa_cons (pe_fld (pv 0) rfl) (pa_cons (pe_fld (pv 0) rfl) pa_nil)))))
    (pss_one (ps_ret (pe_op op_cat (pe_op op_cat (pe_lst (pa_cons (pe_op op_add (pe_callB call_len_seq rfl ml PySem.boot_len (pa_cons (pv 2) pa_nil)) (pe_callB call_len_seq rfl ml PySem.boot_len (pa_cons (pv 3) pa_nil))) (pa_cons (pe_callB call_len_seq rfl ml PySem.boot_len (pa_cons (pv 2) pa_nil)) pa_nil))) (pv 2)) (pv 3))))), ?_⟩
  refine ⟨_, rfl, a, CI, dx, _, _, rfl, ho, TI.cl, TI.n2, iF_mo _ _, _, rfl, a, CI, dx, _, _, rfl, ho, TI.cl, TI.n1, iF_ma _ _, lo, lm, s, rfl, I.mo, I.ma, I.o5, I.m5, fun H1 ch hch s1 => ?_⟩
  refine ⟨_, rfl, _, rfl, a, CI, dx, _, _, rfl, s1 _ _ ho, TI.cl, TI.n2, iF_mo _ _, _, rfl, a, CI, dx, _, _, rfl, s1 _ _ ho, TI.cl, TI.n1, iF_ma _ _, ch, lo, lm, s, bestCov s, rfl, ⟨SqL.of hch, I.mo.same s1, I.ma.same s1, by omega, sets_lt hb, o5, m5⟩, fun H2 tk htk0 htk s2 => ?_⟩
  have hch2 := s2 _ _ hch
  refine ⟨_, rfl, ch, _, rfl, .inl (SqL.of hch2), _, rfl, tk, _, rfl, .inl (SqL.of htk), _, _, rfl, rfl, _, rfl, ch, _, rfl, .inl (SqL.of hch2), (by show 2 ≤ sizeLine; decide), fun l hl => ?_⟩
  rw [natV_len, natV_len]
  have s3 : Same H2 _ := same_new hl (.lst [.int (((bestCov s).length : Nat) + ((rest s (bestCov s)).length : Nat) : Int), .int ((bestCov s).length : Nat)])
  refine ⟨_, rfl, l, ch, _, _, rfl, rfl, upd_same, s3 _ _ hch2, small (by rw [natV_len]; show 2 + _ ≤ 1000; omega), fun p hp => ?_⟩
  have s4 := s3.trans (same_new hp (.lst ([V.int (((bestCov s).length : Nat) + ((rest s (bestCov s)).length : Nat) : Int), .int ((bestCov s).length : Nat)] ++ natV (bestCov s))))
  refine ⟨_, rfl, p, tk, _, _, rfl, rfl, upd_same, s4 _ _ htk, small (by rw [List.length_append, natV_len, natV_len]; unfold rest; show 2 + _ + _ ≤ 1000; omega), fun r hrr => ?_⟩
  have s24 := s2.trans s4
  refine k r _ (s1.free (s24.free hrr)) ?_ (s1.trans (s24.trans (same_new hrr _)))
  rw [upd_same, natV_ints, natV_ints, List.map_cons, List.map_cons, List.map_append, List.append_assoc]
  rfl
theorem scAD : FnScope ["instance", "call", "chosen"] ["instance", "call"] (defScope sAnsDef) := ⟨rfl, rfl, rfl, by decide +kernel, rfl, by decide +kernel, by decide +kernel⟩
theorem ok_ansDef (F : Fun K "answer_max_deficiency" "answer_max_deficiency" sAnsDef f fd) (TI : TInst K CI) (D1 : Def P w K mg base 5 "deficient_set" ["moulds", "machines"] (spPick bestDef)) (D2 : Def P w K mg base 4 "deficiency" ["chosen", "moulds", "machines"] (spNum1 K dfc)) :
    FnOk P w K mg base CX0 6 f fd ["instance", "call"] (spQ CI CC 11) := by
  refine F.ok scAD (fun vs H Q E h => ?_) (fun cdv A outer s H vs Q E hr h => ?_)
  · obtain ⟨H0, a, lm, lo, c, s, n, ns, xs, rfl, _⟩ := h
    rfl
  obtain ⟨H0, a, lm, lo, c, s, n, ns, xs, rfl, I, ap, hc, ⟨rfl, ok⟩, q⟩ := h
  obtain ⟨e1, e2⟩ := ok0 ok rfl
  have := len0 e1
  subst this
  have := len0 e2
  subst this
  have k := query_end I (due_def s) q
  rw [def_is] at k
  obtain ⟨dx, ho⟩ := I.ob
  have hb := bestD_in s
  have hb5 := sets5 hb
  have o5 := I.o5
  have m5 := I.m5
  refine ⟨_, pss_cons (ps_set (i := 2) scAD.nd rfl (Or.inl rfl) (pe_callD D1 hr (pa_cons (pe_fld (pv 0) rfl) (pa_cons (pe_fld (pv 0) rfl) pa_nil))))
    (pss_one (ps_ret (pe_op op_cat (pe_lst (pa_cons (pe_callD D2 (hr.mono (by decide)) (pa_cons (pv 2) (pa_cons (pe_fld (pv 0) rfl) (pa_cons (pe_fld (pv 0) rfl) pa_nil)))) pa_nil)) (pv 2)))), ?_⟩
  refine ⟨_, rfl, a, CI, dx, _, _, rfl, ho, TI.cl, TI.n2, iF_mo _ _, _, rfl, a, CI, dx, _, _, rfl, ho, TI.cl, TI.n1, iF_ma _ _, lo, lm, s, rfl, I.mo, I.ma, I.o5, I.m5, fun H1 ch hch s1 => ?_⟩
  refine ⟨_, rfl, _, rfl, a, CI, dx, _, _, rfl, s1 _ _ ho, TI.cl, TI.n2, iF_mo _ _, _, rfl, a, CI, dx, _, _, rfl, s1 _ _ ho, TI.cl, TI.n1, iF_ma _ _, ch, lo, lm, s, bestDef s, rfl, ⟨SqL.of hch, I.mo.same s1, I.ma.same s1, by omega, sets_lt hb, o5, m5⟩, fun H2 s2 => ?_⟩
  refine ⟨(by show 1 ≤ sizeLine; decide), fun l hl => ?_⟩
  have s3 := s2.trans (same_new hl (.lst [.int ((dfc s (bestDef s) : Nat) : Int)]))
  refine ⟨_, rfl, l, ch, _, _, rfl, rfl, upd_same, s3 _ _ hch, small (by rw [natV_len]; show 1 + _ ≤ 1000; omega), fun p hp => ?_⟩
  refine k p _ (s1.free (s3.free hp)) ?_ (s1.trans (s3.trans (same_new hp _)))
  rw [upd_same, natV_ints]
  rfl
theorem scAK : FnScope ["instance", "call", "entries", "valid"] ["instance", "call"] (defScope sAnsChA) := ⟨rfl, rfl, rfl, by decide +kernel, rfl, by decide +kernel, by decide +kernel⟩
theorem ok_ansChA (F : Fun K "answer_check_assignment" "answer_check_assignment" sAnsChA f fd) (TI : TInst K CI) (TC : TCall K CC) (m1 : Num mg "OUT_OF_RANGE" (-22)) (D1 : Def P w K mg base 2 "are_entries" ["entries", "instance"] (spAreE K CI)) (D2 : Def P w K mg base 2 "is_valid" ["entries", "moulds", "machines"] (spValid K))
    (D3 : Def P w K mg base 1 "truth_number" ["truth"] spTruth) (D4 : Def P w K mg base 2 "assignment_size" ["entries"] (spSize K)) :
    FnOk P w K mg base CX0 3 f fd ["instance", "call"] (spQ CI CC 12) := by
  refine F.ok scAK (fun vs H Q E h => ?_) (fun cdv A outer s H vs Q E hr h => ?_)
  · obtain ⟨H0, a, lm, lo, c, s, n, ns, xs, rfl, _⟩ := h
    rfl
  obtain ⟨H0, a, lm, lo, c, s, n, ns, xs, rfl, I, ap, hc, ⟨rfl, ok⟩, q⟩ := h
  obtain ⟨e1, e2⟩ := ok0 ok rfl
  have := len0 e1
  subst this
  obtain ⟨es, rfl⟩ := len1 e2
  have h70 := ok.len es (List.mem_singleton_self _)
  obtain ⟨dc, ln, lr, as, c1, c2, c3, c4⟩ := hc.ex
  have k := query_end I (due_checkA s es) q
  obtain ⟨dx, ho⟩ := I.ob
  obtain ⟨g, hg1, hg2⟩ := c4.get (i := 0) rfl
  have h1 := ap.le _ _ c1
  have h3 := ap.le _ _ c3
  have hge := ap.le _ _ hg2
  refine ⟨_, pss_cons (ps_set (i := 2) scAK.nd rfl (Or.inl rfl) (pe_ix ix_list (pe_fld (pv 1) rfl) pe_int (fun _ _ => rfl)))
    (pss_cons (ps_if (pt_not (pt_val (pe_callD D1 hr (pa_cons (pv 2) (pa_cons (pv 0) pa_nil))))) (pss_one (ps_ret (pe_lst (pa_cons (pe_num m1) pa_nil)))) pss_nil)
    (pss_cons (ps_set (i := 3) scAK.nd rfl (Or.inl rfl) (pe_callD D2 hr (pa_cons (pv 2) (pa_cons (pe_fld (pv 0) rfl) (pa_cons (pe_fld (pv 0) rfl) pa_nil)))))
    (pss_one (ps_ret (pe_lst (pa_cons (pe_callD D3 (hr.mono (by decide)) (pa_cons (pv 3) pa_nil)) (pa_cons (pe_callD D4 hr (pa_cons (pv 2) pa_nil)) pa_nil))))))), ?_⟩
  refine ⟨_, rfl, c, CC, dc, _, _, rfl, h1, TC.cl, TC.n3, cF_rs _ _ _, lr, _, _, .ref g, rfl, rfl, SqL.of h3, atI_nat (j := 0) (by rw [List.getElem?_map, hg1]; rfl), ?_⟩
  refine ⟨_, rfl, _, rfl, g, a, lm, lo, es, s, rfl, SqL.of hge, h70, I, fun H1 s1 => ⟨_, rfl, ?_⟩⟩
  have hiff := areE_iff s es
  refine ite_bool (fun z => ?_) (fun z => ?_)
  · have z' := of_not_t z
    rw [if_pos (hiff.mp z')] at k
    exact ⟨(by show 1 ≤ sizeLine; decide), fun p hp => k p _ (s1.free hp) upd_same (s1.trans (same_new hp _))⟩
  · have z' := of_not_f z
    rw [if_neg fun y => by rw [hiff.mpr y] at z'; cases z'] at k
    obtain ⟨hl, hx⟩ := areE_true z'
    refine ⟨_, rfl, _, rfl, a, CI, dx, _, _, rfl, s1 _ _ ho, TI.cl, TI.n2, iF_mo _ _, _, rfl, a, CI, dx, _, _, rfl, s1 _ _ ho, TI.cl, TI.n1, iF_ma _ _, g, lo, lm, es, s, rfl, SqL.of (s1 _ _ hge), I.mo.same s1, I.ma.same s1, hl, I.o5, hx, fun H2 s2 => ?_⟩
    have s12 := s1.trans s2
    refine ⟨_, rfl, _, rfl, _, rfl, g, es, rfl, SqL.of (s12 _ _ hge), by omega, fun H3 s3 => ?_⟩
    have s13 := s12.trans s3
    refine ⟨(by show 2 ≤ sizeLine; decide), fun p hp => ?_⟩
    refine k p _ (s13.free hp) ?_ (s13.trans (same_new hp _))
    rw [upd_same, rc_toA fun x m => (hx x m).1]
    rfl
theorem scAJ : FnScope ["instance", "call", "chosen", "taken", "covers"] ["instance", "call"] (defScope sAnsChC) := ⟨rfl, rfl, rfl, by decide +kernel, rfl, by decide +kernel, by decide +kernel⟩
theorem ok_ansChC (F : Fun K "answer_check_cover" "answer_check_cover" sAnsChC f fd) (TI : TInst K CI) (TC : TCall K CC) (ml : mg "len" = none) (m1 : Num mg "OUT_OF_RANGE" (-22)) (D1 : Def P w K mg base 2 "is_index_set" ["ratings", "indices"] (spIdxSet K)) (D2 : Def P w K mg base 5 "is_cover" ["chosen", "taken", "moulds", "machines"] (spIsCov K))
    (D3 : Def P w K mg base 1 "truth_number" ["truth"] spTruth) :
    FnOk P w K mg base CX0 6 f fd ["instance", "call"] (spQ CI CC 13) := by
  refine F.ok scAJ (fun vs H Q E h => ?_) (fun cdv A outer s H vs Q E hr h => ?_)
  · obtain ⟨H0, a, lm, lo, c, s, n, ns, xs, rfl, _⟩ := h
    rfl
  obtain ⟨H0, a, lm, lo, c, s, n, ns, xs, rfl, I, ap, hc, ⟨rfl, ok⟩, q⟩ := h
  obtain ⟨e1, e2⟩ := ok0 ok rfl
  have := len0 e1
  subst this
  obtain ⟨ms, js, rfl⟩ := len2 e2
  have h70 := ok.len ms (List.mem_cons_self ..)
  have h70j := ok.len js (List.mem_cons_of_mem _ (List.mem_singleton_self _))
  obtain ⟨dc, ln, lr, as, c1, c2, c3, c4⟩ := hc.ex
  have k := query_end I (due_checkC s ms js) q
  obtain ⟨dx, ho⟩ := I.ob
  obtain ⟨ts, hml, hts⟩ := id I.mo
  obtain ⟨us, hjl, hus⟩ := id I.ma
  obtain ⟨g, hg1, hg2⟩ := c4.get (i := 0) rfl
  obtain ⟨b, hb1, hb2⟩ := c4.get (i := 1) rfl
  have h1 := ap.le _ _ c1
  have h3 := ap.le _ _ c3
  have hge := ap.le _ _ hg2
  have hbe := ap.le _ _ hb2
  refine ⟨_, pss_cons (ps_set (i := 2) scAJ.nd rfl (Or.inl rfl) (pe_ix ix_list (pe_fld (pv 1) rfl) pe_int (fun _ _ => rfl)))
    (pss_cons (ps_set (i := 3) scAJ.nd rfl (Or.inl rfl) (pe_ix ix_list (pe_fld (pv 1) rfl) pe_int (fun _ _ => rfl)))
    (pss_cons (ps_if (PW.pt (pw_or (pt_not (pt_val (pe_callD D1 (hr.mono (by decide)) (pa_cons (pe_fld (pv 0) rfl) (pa_cons (pv 2) pa_nil))))) (pw_or1 (pt_not (pt_val (pe_callD D1 (hr.mono (by decide)) (pa_cons (pe_fld (pv 0) rfl) (pa_cons (pv 3) pa_nil)))))))) (pss_one (ps_ret (pe_lst (pa_cons (pe_num m1) pa_nil)))) pss_nil)
    (pss_cons (ps_set (i := 4) scAJ.nd rfl (Or.inl rfl) (pe_callD D2 hr (pa_cons (pv 2) (pa_cons (pv 3) (pa_cons (pe_fld (pv 0) rfl) (pa_cons (pe_fld (pv 0) rfl) pa_nil))))))
    (pss_one (ps_ret (pe_lst (pa_cons (pe_callD D3 (hr.mono (by decide)) (pa_cons (pv 4) pa_nil)) (pa_cons (pe_op op_add (pe_callB call_len_seq rfl ml PySem.boot_len (pa_cons (pv 2) pa_nil)) (pe_callB call_len_seq rfl ml PySem.boot_len (pa_cons (pv 3) pa_nil))) pa_nil)))))))), ?_⟩
  refine ⟨_, rfl, c, CC, dc, _, _, rfl, h1, TC.cl, TC.n3, cF_rs _ _ _, lr, _, _, .ref g, rfl, rfl, SqL.of h3, atI_nat (j := 0) (by rw [List.getElem?_map, hg1]; rfl), ?_⟩
  refine ⟨_, rfl, c, CC, dc, _, _, rfl, h1, TC.cl, TC.n3, cF_rs _ _ _, lr, _, _, .ref b, rfl, rfl, SqL.of h3, atI_nat (j := 1) (by rw [List.getElem?_map, hb1]; rfl), ?_⟩
  have bad : ∀ H1, Same H H1 → (Sr117.isMouldSet s ms = false ∨ Sr117.isMachineSet s js = false) → tRet (tLst (tCons (tC (.int (-22))) tNil)) { nx := fun _ H' => Q .non H', rt := Q } [some (.ref a), some (.ref c), some (.ref g), some (.ref b), none] H1 := fun H1 s1 z => by
    rw [if_pos z] at k
    exact ⟨(by show 1 ≤ sizeLine; decide), fun p hp => k p _ (s1.free hp) upd_same (s1.trans (same_new hp _))⟩
  refine ⟨_, rfl, a, CI, dx, _, _, rfl, ho, TI.cl, TI.n2, iF_mo _ _, _, rfl, lo, g, _, ms, rfl, SqL.of hml, SqL.of hge, h70, fun H1 s1 => ⟨_, rfl, ?_⟩⟩
  rw [List.length_map, hts.len, ← mset_is]
  refine ite_bool (fun z => ?_) (fun z => ?_)
  · refine if_true_of rfl ?_
    exact bad H1 s1 (.inl (of_not_t z))
  · refine ⟨_, rfl, a, CI, dx, _, _, rfl, s1 _ _ ho, TI.cl, TI.n1, iF_ma _ _, _, rfl, lm, b, _, js, rfl, SqL.of (s1 _ _ hjl), SqL.of (s1 _ _ hbe), h70j, fun H2 s2 => ⟨_, rfl, ?_⟩⟩
    have s12 := s1.trans s2
    rw [List.length_map, hus.len, ← jset_is]
    refine ite_bool (fun z2 => ?_) (fun z2 => ?_)
    · exact bad H2 s12 (.inr (of_not_t z2))
    · have i1 := of_not_f z
      have i2 := of_not_f z2
      rw [if_neg (by rw [i1, i2]; simp)] at k
      rw [mset_is] at i1
      rw [jset_is] at i2
      obtain ⟨n1, n2, n3⟩ := idx_set i1
      obtain ⟨p1, p2, p3⟩ := idx_set i2
      have hge2 := s12 _ _ hge
      have hbe2 := s12 _ _ hbe
      rw [n1] at hge2
      rw [p1] at hbe2
      refine ⟨_, rfl, _, rfl, _, rfl, a, CI, dx, _, _, rfl, s12 _ _ ho, TI.cl, TI.n2, iF_mo _ _, _, rfl, a, CI, dx, _, _, rfl, s12 _ _ ho, TI.cl, TI.n1, iF_ma _ _, g, b, lo, lm, s, _, _, rfl, ⟨SqL.of hge2, I.mo.same s12, I.ma.same s12, by omega, n2, I.o5, I.m5⟩, SqL.of hbe2, fun H3 s3 => ?_⟩
      have s13 := s12.trans s3
      refine ⟨_, rfl, _, rfl, _, rfl, g, _, rfl, .inl (SqL.of (s13 _ _ hge)), _, rfl, b, _, rfl, .inl (SqL.of (s13 _ _ hbe)), _, _, rfl, rfl, ?_⟩
      rw [List.length_map, List.length_map]
      refine ⟨(by show 2 ≤ sizeLine; decide), fun p hp => ?_⟩
      refine k p _ (s13.free hp) ?_ (s13.trans (same_new hp _))
      rw [upd_same]
      have ea : ((ms.length + js.length : Nat) : Int) = (ms.length : Int) + (js.length : Int) := by omega
      rw [ea]
      rfl
theorem scAN : FnScope ["instance", "call", "chosen", "found"] ["instance", "call"] (defScope sAnsNb) := ⟨rfl, rfl, rfl, by decide +kernel, rfl, by decide +kernel, by decide +kernel⟩
theorem ok_ansNb (F : Fun K "answer_neighbours" "answer_neighbours" sAnsNb f fd) (TI : TInst K CI) (TC : TCall K CC) (ml : mg "len" = none) (m1 : Num mg "OUT_OF_RANGE" (-22)) (D1 : Def P w K mg base 2 "is_index_set" ["ratings", "indices"] (spIdxSet K)) (D2 : Def P w K mg base 3 "neighbours_of" ["chosen", "moulds", "machines"] (spNb K Sr117.neighbours)) :
    FnOk P w K mg base CX0 4 f fd ["instance", "call"] (spQ CI CC 14) := by
  refine F.ok scAN (fun vs H Q E h => ?_) (fun cdv A outer s H vs Q E hr h => ?_)
  · obtain ⟨H0, a, lm, lo, c, s, n, ns, xs, rfl, _⟩ := h
    rfl
  obtain ⟨H0, a, lm, lo, c, s, n, ns, xs, rfl, I, ap, hc, ⟨rfl, ok⟩, q⟩ := h
  obtain ⟨e1, e2⟩ := ok0 ok rfl
  have := len0 e1
  subst this
  obtain ⟨ms, rfl⟩ := len1 e2
  have h70 := ok.len ms (List.mem_cons_self ..)
  obtain ⟨dc, ln, lr, as, c1, c2, c3, c4⟩ := hc.ex
  have k := query_end I (due_neigh s ms) q
  obtain ⟨dx, ho⟩ := I.ob
  obtain ⟨ts, hml, hts⟩ := id I.mo
  obtain ⟨g, hg1, hg2⟩ := c4.get (i := 0) rfl
  have h1 := ap.le _ _ c1
  have h3 := ap.le _ _ c3
  have hge := ap.le _ _ hg2
  refine ⟨_, pss_cons (ps_set (i := 2) scAN.nd rfl (Or.inl rfl) (pe_ix ix_list (pe_fld (pv 1) rfl) pe_int (fun _ _ => rfl)))
    (pss_cons (ps_if (pt_not (pt_val (pe_callD D1 (hr.mono (by decide)) (pa_cons (pe_fld (pv 0) rfl) (pa_cons (pv 2) pa_nil))))) (pss_one (ps_ret (pe_lst (pa_cons (pe_num m1) pa_nil)))) pss_nil)
    (pss_cons (ps_set (i := 3) scAN.nd rfl (Or.inl rfl) (pe_callD D2 hr (pa_cons (pv 2) (pa_cons (pe_fld (pv 0) rfl) (pa_cons (pe_fld (pv 0) rfl) pa_nil)))))
    (pss_one (ps_ret (pe_op op_cat (pe_lst (pa_cons (pe_callB call_len_seq rfl ml PySem.boot_len (pa_cons (pv 3) pa_nil)) pa_nil)) (pv 3)))))), ?_⟩
  refine ⟨_, rfl, c, CC, dc, _, _, rfl, h1, TC.cl, TC.n3, cF_rs _ _ _, lr, _, _, .ref g, rfl, rfl, SqL.of h3, atI_nat (j := 0) (by rw [List.getElem?_map, hg1]; rfl), ?_⟩
  refine ⟨_, rfl, a, CI, dx, _, _, rfl, ho, TI.cl, TI.n2, iF_mo _ _, _, rfl, lo, g, _, ms, rfl, SqL.of hml, SqL.of hge, h70, fun H1 s1 => ⟨_, rfl, ?_⟩⟩
  rw [List.length_map, hts.len, ← mset_is]
  refine ite_bool (fun z => ?_) (fun z => ?_)
  · rw [if_pos (of_not_t z)] at k
    exact ⟨(by show 1 ≤ sizeLine; decide), fun p hp => k p _ (s1.free hp) upd_same (s1.trans (same_new hp _))⟩
  · have i1 := of_not_f z
    rw [if_neg (by rw [i1]; simp)] at k
    rw [mset_is] at i1
    obtain ⟨n1, n2, n3⟩ := idx_set i1
    have hge2 := s1 _ _ hge
    rw [n1] at hge2
    refine ⟨_, rfl, _, rfl, a, CI, dx, _, _, rfl, s1 _ _ ho, TI.cl, TI.n2, iF_mo _ _, _, rfl, a, CI, dx, _, _, rfl, s1 _ _ ho, TI.cl, TI.n1, iF_ma _ _, g, lo, lm, s, _, rfl, ⟨SqL.of hge2, I.mo.same s1, I.ma.same s1, by omega, n2, I.o5, I.m5⟩, fun H2 p hp0 hp s2 => ?_⟩
    have hl5 := nb_len s (SrCommon.intsToNats ms)
    have m5 := I.m5
    refine ⟨_, rfl, p, _, rfl, .inl (SqL.of hp), (by show 1 ≤ sizeLine; decide), fun l hl => ?_⟩
    rw [natV_len]
    have s3 := same_new hl (.lst [.int ((Sr117.neighbours s (SrCommon.intsToNats ms)).length : Nat)])
    refine ⟨_, rfl, l, p, _, _, rfl, rfl, upd_same, s3 _ _ hp, small (by rw [natV_len]; show 1 + _ ≤ 1000; omega), fun r hrr => ?_⟩
    have s123 := s1.trans (s2.trans s3)
    refine k r _ (s123.free hrr) ?_ (s123.trans (same_new hrr _))
    rw [upd_same, natV_ints]
    rfl
theorem scAW : FnScope ["instance", "call", "j", "others"] ["instance", "call"] (defScope sAnsWo) := ⟨rfl, rfl, rfl, by decide +kernel, rfl, by decide +kernel, by decide +kernel⟩
theorem ok_ansWo (F : Fun K "answer_max_running_without" "answer_max_running_without" sAnsWo f fd) (TI : TInst K CI) (TC : TCall K CC) (m1 : Num mg "NO_SUCH_INDEX" (-2)) (D1 : Def P w K mg base 1 "is_index" ["ratings", "index"] (spIdx K)) (D2 : Def P w K mg base 7 "count_running" ["moulds", "machines"] spCount) :
    FnOk P w K mg base CX0 8 f fd ["instance", "call"] (spQ CI CC 15) := by
  refine F.ok scAW (fun vs H Q E h => ?_) (fun cdv A outer s H vs Q E hr h => ?_)
  · obtain ⟨H0, a, lm, lo, c, s, n, ns, xs, rfl, _⟩ := h
    rfl
  obtain ⟨H0, a, lm, lo, c, s, n, ns, xs, rfl, I, ap, hc, ⟨rfl, ok⟩, q⟩ := h
  obtain ⟨e1, e2⟩ := ok0 ok rfl
  obtain ⟨j, rfl⟩ := len1 e1
  have := len0 e2
  subst this
  obtain ⟨dc, ln, lr, as, c1, c2, c3, c4⟩ := hc.ex
  have k := query_end I (due_without s j) q
  obtain ⟨dx, ho⟩ := I.ob
  obtain ⟨ts, hl, hts⟩ := id I.ma
  have h1 := ap.le _ _ c1
  have h2 := ap.le _ _ c2
  refine ⟨_, pss_cons (ps_set (i := 2) scAW.nd rfl (Or.inl rfl) (pe_ix ix_list (pe_fld (pv 1) rfl) pe_int (fun _ _ => rfl)))
    (pss_cons (ps_if (pt_not (pt_val (pe_callD D1 (hr.mono (by decide)) (pa_cons (pe_fld (pv 0) rfl) (pa_cons (pv 2) pa_nil))))) (pss_one (ps_ret (pe_lst (pa_cons (pe_num m1) pa_nil)))) pss_nil)
    (pss_cons (ps_set (i := 3) scAW.nd rfl (Or.inl rfl) (pe_op op_cat (pe_slice sl_list (pe_fld (pv 0) rfl) po_none (po_some (pv 2))) (pe_slice sl_list (pe_fld (pv 0) rfl) (po_some (pe_op op_add (pv 2) pe_int)) po_none)))
    (pss_one (ps_ret (pe_lst (pa_cons (pe_callD D2 hr (pa_cons (pe_fld (pv 0) rfl) (pa_cons (pv 3) pa_nil))) pa_nil)))))), ?_⟩
  refine ⟨_, rfl, c, CC, dc, _, _, rfl, h1, TC.cl, TC.n2, cF_ns _ _ _, ln, _, _, .int j, rfl, rfl, SqL.of h2, rfl, ?_⟩
  refine ⟨_, rfl, a, CI, dx, _, _, rfl, ho, TI.cl, TI.n1, iF_ma _ _, _, rfl, lm, _, j, rfl, SqL.of hl, _, rfl, ?_⟩
  rw [List.length_map, hts.len]
  refine ite_bool (fun z => ?_) (fun z => ?_)
  · rw [if_pos (of_not_t z)] at k
    exact ⟨(by show 1 ≤ sizeLine; decide), fun p hp => k p _ hp upd_same (same_new hp _)⟩
  · have i1 := of_not_f z
    rw [if_neg (by rw [i1]; simp)] at k
    obtain ⟨j0, jl⟩ := idx_iff.mp i1
    obtain ⟨jn, rfl⟩ : ∃ m : Nat, j = (m : Int) := ⟨j.toNat, by omega⟩
    have jl' : jn < s.machines.length := by omega
    have hlen := hts.len
    refine ⟨_, rfl, a, CI, dx, _, _, rfl, ho, TI.cl, TI.n1, iF_ma _ _, _, rfl, _, rfl, lm, _, rfl, SqL.of hl, fun p1 hp1 => ?_⟩
    have s1 := same_new hp1 (.lst (cutV (ts.map V.ref) none (some (jn : Int))))
    refine ⟨_, rfl, a, CI, dx, _, _, rfl, s1 _ _ ho, TI.cl, TI.n1, iF_ma _ _, _, rfl, _, _, rfl, rfl, _, rfl, lm, _, rfl, SqL.of (s1 _ _ hl), fun p2 hp2 => ?_⟩
    have s2 := s1.trans (same_new hp2 (.lst (cutV (ts.map V.ref) (some ((jn : Int) + 1)) none)))
    have p12 : p1 ≠ p2 := fun y => by rw [← y, upd_same] at hp2; cases hp2
    refine ⟨p1, p2, _, _, rfl, rfl, by rw [upd_ne p12, upd_same], upd_same, ?_, fun p3 hp3 => ?_⟩
    · have l1 := cutV_length (ts.map V.ref) none (some (jn : Int))
      have l2 := cutV_length (ts.map V.ref) (some ((jn : Int) + 1)) none
      rw [List.length_map] at l1 l2
      exact small (by have := I.m5; omega)
    · have ec : cutV (ts.map V.ref) none (some (jn : Int)) ++ cutV (ts.map V.ref) (some ((jn : Int) + 1)) none = (ts.eraseIdx jn).map V.ref := by
        have e1 : ((jn : Int) + 1) = ((jn + 1 : Nat) : Int) := by omega
        rw [e1, cut_to (by rw [List.length_map]; omega), cut_from (by rw [List.length_map]; omega), List.eraseIdx_eq_take_drop_succ, List.map_append, List.map_take, List.map_drop]
      have s3 := s2.trans (same_new hp3 (.lst (cutV (ts.map V.ref) none (some (jn : Int)) ++ cutV (ts.map V.ref) (some ((jn : Int) + 1)) none)))
      have er := (hts.erase jn).keep fun b xs e => s3 _ _ e
      rw [ec] at s3 er ⊢
      refine ⟨_, rfl, a, CI, dx, _, _, rfl, s3 _ _ ho, TI.cl, TI.n2, iF_mo _ _, _, rfl, lo, p3, { s with machines := s.machines.eraseIdx jn }, rfl, I.mo.same s3, ⟨_, upd_same, er⟩, I.o5, ?_, fun H4 s4 => ?_⟩
      · show (s.machines.eraseIdx jn).length ≤ 5
        have := List.length_eraseIdx_le s.machines jn
        have := I.m5
        omega
      · refine ⟨(by show 1 ≤ sizeLine; decide), fun p hp => ?_⟩
        have s34 := s3.trans s4
        refine k p _ (s34.free hp) ?_ (s34.trans (same_new hp _))
        rw [upd_same]
        rfl
theorem scAL : FnScope ["instance", "call"] ["instance", "call"] (defScope sAnsList) := ⟨rfl, rfl, rfl, by decide +kernel, rfl, by decide +kernel, by decide +kernel⟩
theorem ok_ansList (F : Fun K "answer_list_ratings" "answer_list_ratings" sAnsList f fd) (TI : TInst K CI) (D1 : Def P w K mg base 1 "counted_ratings" ["ratings"] spCounted) :
    FnOk P w K mg base CX0 2 f fd ["instance", "call"] (spQ CI CC 16) := by
  refine F.ok scAL (fun vs H Q E h => ?_) (fun cdv A outer s H vs Q E hr h => ?_)
  · obtain ⟨H0, a, lm, lo, c, s, n, ns, xs, rfl, _⟩ := h
    rfl
  obtain ⟨H0, a, lm, lo, c, s, n, ns, xs, rfl, I, ap, hc, ⟨rfl, ok⟩, q⟩ := h
  obtain ⟨e1, e2⟩ := ok0 ok rfl
  have := len0 e1
  subst this
  have := len0 e2
  subst this
  have k := query_end I (due_list s) q
  obtain ⟨dx, ho⟩ := I.ob
  refine ⟨_, pss_one (ps_ret (pe_op op_cat (pe_callD D1 hr (pa_cons (pe_fld (pv 0) rfl) pa_nil)) (pe_callD D1 hr (pa_cons (pe_fld (pv 0) rfl) pa_nil)))), ?_⟩
  have m5 := I.m5
  have o5 := I.o5
  refine ⟨_, rfl, a, CI, dx, _, _, rfl, ho, TI.cl, TI.n1, iF_ma _ _, lm, s.machines, rfl, I.ma, m5, fun H1 p1 hp10 hp1 s1 => ?_⟩
  refine ⟨_, rfl, a, CI, dx, _, _, rfl, s1 _ _ ho, TI.cl, TI.n2, iF_mo _ _, lo, s.moulds, rfl, I.mo.same s1, o5, fun H2 p2 hp20 hp2 s2 => ?_⟩
  have f1 := flat_len s.machines
  have f2 := flat_len s.moulds
  refine ⟨p1, p2, _, _, rfl, rfl, s2 _ _ hp1, hp2, small (by rw [List.length_map, List.length_map]; unfold ratsV; rw [List.length_cons, List.length_cons, f1, f2]; omega), fun p hp => ?_⟩
  have s12 := s1.trans s2
  refine k p _ (s12.free hp) ?_ (s12.trans (same_new hp _))
  rw [upd_same, ← List.map_append]
  rfl
end
end Mp
/-! Jf -/
set_option Elab.async false
set_option maxRecDepth 100000
set_option maxHeartbeats 4000000
namespace Mp
open PySem PySem.Spec PyProof.Rows L2
open Sr117 (Shop Rating)
abbrev sPerfQ : Stmt := top 62
section
variable {P : Program} {w : World} {K : PySem.W.Frag} {mg : Str → Option Value} {base : Heap} {f CI CC d f7 f8 f9 f10 f11 f12 f13 f14 f15 f16 : Addr} {fd : FuncData}
theorem scPQ : FnScope ["instance", "call", "query"] ["instance", "call"] (defScope sPerfQ) := ⟨rfl, rfl, rfl, by decide +kernel, rfl, by decide +kernel, by decide +kernel⟩
theorem ok_perfQ (F : Fun K "perform_query" "perform_query" sPerfQ f fd) (TC : TCall K CC) (md : mg "QUERIES" = some (.ref d)) (hd : IntDct K d [(7, f7), (8, f8), (9, f9), (10, f10), (11, f11), (12, f12), (13, f13), (14, f14), (15, f15), (16, f16)])
    (G7 : Held1 P w K mg base 11 f7 (spQ CI CC 7)) (G8 : Held1 P w K mg base 11 f8 (spQ CI CC 8)) (G9 : Held1 P w K mg base 11 f9 (spQ CI CC 9)) (G10 : Held1 P w K mg base 11 f10 (spQ CI CC 10)) (G11 : Held1 P w K mg base 11 f11 (spQ CI CC 11))
    (G12 : Held1 P w K mg base 11 f12 (spQ CI CC 12)) (G13 : Held1 P w K mg base 11 f13 (spQ CI CC 13)) (G14 : Held1 P w K mg base 11 f14 (spQ CI CC 14)) (G15 : Held1 P w K mg base 11 f15 (spQ CI CC 15)) (G16 : Held1 P w K mg base 11 f16 (spQ CI CC 16)) :
    FnOk P w K mg base CX0 12 f fd ["instance", "call"] (spOn CI CC isQuery due) := by
  refine F.ok scPQ (fun vs H Q E h => ?_) (fun cdv A outer s H vs Q E hr h => ?_)
  · obtain ⟨H0, a, lm, lo, c, s, n, ns, rs, rfl, _⟩ := h
    rfl
  obtain ⟨H0, a, lm, lo, c, s, n, ns, rs, rfl, I, ap, hc, ⟨h7, ok⟩, q⟩ := h
  obtain ⟨dc, ln, lr, as, c1, c2, c3, c4⟩ := hc.ex
  refine ⟨_, pss_cons (ps_set (i := 2) scPQ.nd rfl (Or.inl rfl) (pe_ix ix_int (pe_glob (v := V.ref d) rfl md rfl) (pe_fld (pv 1) rfl) (fun _ _ => rfl)))
    (pss_one (ps_ret (pe_callV (i := 2) hr rfl (Or.inl rfl) (pa_cons (pv 0) (pa_cons (pv 1) pa_nil))))), ?_⟩
  refine ⟨_, rfl, c, CC, dc, _, _, rfl, ap.le _ _ c1, TC.cl, TC.n1, cF_n _ _ _, ?_⟩
  have fin : ∀ (fn : Addr), tabGet [(7, f7), (8, f8), (9, f9), (10, f10), (11, f11), (12, f12), (13, f13), (14, f14), (15, f15), (16, f16)] n = some fn → Held1 P w K mg base 11 fn (spQ CI CC n) →
      rIxI K (.ref d) (.int n) H (fun x H' => tRet (tCallV P w K mg base 11 2 (tCons (tVar 0) (tCons (tVar 1) tNil))) { nx := fun _ H' => Q .non H', rt := Q } ((start ["instance", "call", "query"] [.ref a, .ref c]).set 2 (some x)) H') := by
    intro fn e G
    refine ⟨d, n, _, fn, rfl, rfl, hd, e, ?_⟩
    refine ⟨fn, _, rfl, G, _, rfl, _, rfl, ?_⟩
    exact ⟨H0, a, lm, lo, c, s, n, ns, rs, rfl, I, ap, hc, ⟨rfl, ok⟩, q⟩
  obtain ⟨_, h17⟩ := shape_lt ok.sh
  have cs : n = 7 ∨ n = 8 ∨ n = 9 ∨ n = 10 ∨ n = 11 ∨ n = 12 ∨ n = 13 ∨ n = 14 ∨ n = 15 ∨ n = 16 := by omega
  rcases cs with rfl | rfl | rfl | rfl | rfl | rfl | rfl | rfl | rfl | rfl
  · exact fin f7 rfl G7
  · exact fin f8 rfl G8
  · exact fin f9 rfl G9
  · exact fin f10 rfl G10
  · exact fin f11 rfl G11
  · exact fin f12 rfl G12
  · exact fin f13 rfl G13
  · exact fin f14 rfl G14
  · exact fin f15 rfl G15
  · exact fin f16 rfl G16
end
end Mp
/-! Hx -/
set_option Elab.async false
set_option maxRecDepth 100000
set_option maxHeartbeats 4000000
namespace Mp
open PySem PySem.Spec PyProof.Rows L2
theorem tupK_of {K : PySem.W.Frag} {a : Addr} {od : Option Addr} {us : List Value} {n : Nat} {sl : Array (Option Value)} {xs : List V} (l : K.lookup a = some ⟨.type "tuple", od, .seq (List.toArray us) n, sl⟩) (v : Vals xs us) (z : us.length ≤ 1000) : TupK K a xs :=
  fun _ => .inr ⟨_, List.toArray us, n, l, rfl, rfl, by rw [List.size_toArray]; exact small z, v⟩
def FormsLs (K : PySem.W.Frag) : Nat → List Addr → Prop
  | _, [] => True
  | i, a :: as => (∃ k m : Nat, PySr117.shape (i : Int) = some (k, m) ∧ TupK K a [.int (k : Int), .int (m : Int)]) ∧ FormsLs K (i + 1) as
theorem forms_get {K : PySem.W.Frag} : ∀ {as : List Addr} {j : Nat}, FormsLs K j as → ∀ (i : Nat) (a : Addr), as[i]? = some a → ∃ k m : Nat, PySr117.shape ((j + i : Nat) : Int) = some (k, m) ∧ TupK K a [.int (k : Int), .int (m : Int)]
  | [], _, _, i, a, e => by simp at e
  | b :: as, j, h, 0, a, e => by
    rw [List.getElem?_cons_zero] at e
    cases e
    exact h.1
  | b :: as, j, h, i + 1, a, e => by
    rw [List.getElem?_cons_succ] at e
    have := forms_get h.2 i a e
    rw [show j + (i + 1) = j + 1 + i by omega]
    exact this
theorem num_of {K : PySem.W.Frag} {h : Heap} {mg : Str → Option Value} {x : Str} {n : Int} {t : Tok} (X : K.In h) (G : h.Ns mainGlobals mg) (a : PySem.W.nsIn K mainGlobals x = some (some (.int n t))) : Num mg x n := ⟨t, PySem.W.mg_of X G a⟩
theorem def_of {P : Program} {w : World} {K : PySem.W.Frag} {mg : Str → Option Value} {base : Heap} {k : Nat} {x : Str} {ps : List Str} {sp : Sp} {f : Addr} {fd : FuncData} (G : FnOk P w K mg base CX0 k f fd ps sp) (m : mg x = some (.ref f)) (kp : PySem.W.keepIn K (.ref f) = true) (b : Binds K fd ps []) : Def P w K mg base k x ps sp := ⟨f, fd, G, m, kp, b⟩
theorem all_mk {P : Program} {w : World} {K : PySem.W.Frag} {h : Heap} {mg : Str → Option Value} {fa fIsIndex fIsRating fAddR fRemR fSetR fAddMa fAddMo fRemMa fRemMo fSetMa fSetMo fPerfCh fFits fFitM fCount fRun fSize fValid fLarge fNextE fBestA fSets fFitsOne fNb fDfc fDefSet fToCov fIsCov fCovSz fMinCov fTruth fIdxSet fAreE fCounted fAnsFits fAnsMax fAnsBest fAnsCov fAnsDef fAnsChA fAnsChC fAnsNb fAnsWo fAnsList fPerfQ fReadAll fPerform fAnswers CM fMatInit fMatPlace CI fInstInit CC fCallInit CR fRdInit fRdMore fRdNum fRdNums fRdRow fRdCall dC dF dQ tF0 tF1 tF2 tF3 tF4 tF5 tF6 tF7 tF8 tF9 tF10 tF11 tF12 tF13 tF14 tF15 tF16 : Addr} (X : K.In h) (G : h.Ns mainGlobals mg) (hfa : mg "answers" = some (.ref fa))
    {odIsIndex anIsIndex : Option Addr} {slIsIndex : Array (Option Value)} {ocIsIndex kVIsIndex dcIsIndex pmIsIndex cdIsIndex ctIsIndex : Value}
    {odIsRating anIsRating : Option Addr} {slIsRating : Array (Option Value)} {ocIsRating kVIsRating dcIsRating pmIsRating cdIsRating ctIsRating : Value}
    {odAddR anAddR : Option Addr} {slAddR : Array (Option Value)} {ocAddR kVAddR dcAddR pmAddR cdAddR ctAddR : Value}
    {odRemR anRemR : Option Addr} {slRemR : Array (Option Value)} {ocRemR kVRemR dcRemR pmRemR cdRemR ctRemR : Value}
    {odSetR anSetR : Option Addr} {slSetR : Array (Option Value)} {ocSetR kVSetR dcSetR pmSetR cdSetR ctSetR : Value}
    {odAddMa anAddMa : Option Addr} {slAddMa : Array (Option Value)} {ocAddMa kVAddMa dcAddMa pmAddMa cdAddMa ctAddMa : Value}
    {odAddMo anAddMo : Option Addr} {slAddMo : Array (Option Value)} {ocAddMo kVAddMo dcAddMo pmAddMo cdAddMo ctAddMo : Value}
    {odRemMa anRemMa : Option Addr} {slRemMa : Array (Option Value)} {ocRemMa kVRemMa dcRemMa pmRemMa cdRemMa ctRemMa : Value}
    {odRemMo anRemMo : Option Addr} {slRemMo : Array (Option Value)} {ocRemMo kVRemMo dcRemMo pmRemMo cdRemMo ctRemMo : Value}
    {odSetMa anSetMa : Option Addr} {slSetMa : Array (Option Value)} {ocSetMa kVSetMa dcSetMa pmSetMa cdSetMa ctSetMa : Value}
    {odSetMo anSetMo : Option Addr} {slSetMo : Array (Option Value)} {ocSetMo kVSetMo dcSetMo pmSetMo cdSetMo ctSetMo : Value}
    {odPerfCh anPerfCh : Option Addr} {slPerfCh : Array (Option Value)} {ocPerfCh kVPerfCh dcPerfCh pmPerfCh cdPerfCh ctPerfCh : Value}
    {odFits anFits : Option Addr} {slFits : Array (Option Value)} {ocFits kVFits dcFits pmFits cdFits ctFits : Value}
    {odFitM anFitM : Option Addr} {slFitM : Array (Option Value)} {ocFitM kVFitM dcFitM pmFitM cdFitM ctFitM : Value}
    {odCount anCount : Option Addr} {slCount : Array (Option Value)} {ocCount kVCount dcCount pmCount cdCount ctCount : Value}
    {odRun anRun : Option Addr} {slRun : Array (Option Value)} {ocRun kVRun dcRun pmRun cdRun ctRun : Value}
    {odSize anSize : Option Addr} {slSize : Array (Option Value)} {ocSize kVSize dcSize pmSize cdSize ctSize : Value}
    {odValid anValid : Option Addr} {slValid : Array (Option Value)} {ocValid kVValid dcValid pmValid cdValid ctValid : Value}
    {odLarge anLarge : Option Addr} {slLarge : Array (Option Value)} {ocLarge kVLarge dcLarge pmLarge cdLarge ctLarge : Value}
    {odNextE anNextE : Option Addr} {slNextE : Array (Option Value)} {ocNextE kVNextE dcNextE pmNextE cdNextE ctNextE : Value}
    {odBestA anBestA : Option Addr} {slBestA : Array (Option Value)} {ocBestA kVBestA dcBestA pmBestA cdBestA ctBestA : Value}
    {odSets anSets : Option Addr} {slSets : Array (Option Value)} {ocSets kVSets dcSets pmSets cdSets ctSets : Value}
    {odFitsOne anFitsOne : Option Addr} {slFitsOne : Array (Option Value)} {ocFitsOne kVFitsOne dcFitsOne pmFitsOne cdFitsOne ctFitsOne : Value}
    {odNb anNb : Option Addr} {slNb : Array (Option Value)} {ocNb kVNb dcNb pmNb cdNb ctNb : Value}
    {odDfc anDfc : Option Addr} {slDfc : Array (Option Value)} {ocDfc kVDfc dcDfc pmDfc cdDfc ctDfc : Value}
    {odDefSet anDefSet : Option Addr} {slDefSet : Array (Option Value)} {ocDefSet kVDefSet dcDefSet pmDefSet cdDefSet ctDefSet : Value}
    {odToCov anToCov : Option Addr} {slToCov : Array (Option Value)} {ocToCov kVToCov dcToCov pmToCov cdToCov ctToCov : Value}
    {odIsCov anIsCov : Option Addr} {slIsCov : Array (Option Value)} {ocIsCov kVIsCov dcIsCov pmIsCov cdIsCov ctIsCov : Value}
    {odCovSz anCovSz : Option Addr} {slCovSz : Array (Option Value)} {ocCovSz kVCovSz dcCovSz pmCovSz cdCovSz ctCovSz : Value}
    {odMinCov anMinCov : Option Addr} {slMinCov : Array (Option Value)} {ocMinCov kVMinCov dcMinCov pmMinCov cdMinCov ctMinCov : Value}
    {odTruth anTruth : Option Addr} {slTruth : Array (Option Value)} {ocTruth kVTruth dcTruth pmTruth cdTruth ctTruth : Value}
    {odIdxSet anIdxSet : Option Addr} {slIdxSet : Array (Option Value)} {ocIdxSet kVIdxSet dcIdxSet pmIdxSet cdIdxSet ctIdxSet : Value}
    {odAreE anAreE : Option Addr} {slAreE : Array (Option Value)} {ocAreE kVAreE dcAreE pmAreE cdAreE ctAreE : Value}
    {odCounted anCounted : Option Addr} {slCounted : Array (Option Value)} {ocCounted kVCounted dcCounted pmCounted cdCounted ctCounted : Value}
    {odAnsFits anAnsFits : Option Addr} {slAnsFits : Array (Option Value)} {ocAnsFits kVAnsFits dcAnsFits pmAnsFits cdAnsFits ctAnsFits : Value}
    {odAnsMax anAnsMax : Option Addr} {slAnsMax : Array (Option Value)} {ocAnsMax kVAnsMax dcAnsMax pmAnsMax cdAnsMax ctAnsMax : Value}
    {odAnsBest anAnsBest : Option Addr} {slAnsBest : Array (Option Value)} {ocAnsBest kVAnsBest dcAnsBest pmAnsBest cdAnsBest ctAnsBest : Value}
    {odAnsCov anAnsCov : Option Addr} {slAnsCov : Array (Option Value)} {ocAnsCov kVAnsCov dcAnsCov pmAnsCov cdAnsCov ctAnsCov : Value}
    {odAnsDef anAnsDef : Option Addr} {slAnsDef : Array (Option Value)} {ocAnsDef kVAnsDef dcAnsDef pmAnsDef cdAnsDef ctAnsDef : Value}
    {odAnsChA anAnsChA : Option Addr} {slAnsChA : Array (Option Value)} {ocAnsChA kVAnsChA dcAnsChA pmAnsChA cdAnsChA ctAnsChA : Value}
    {odAnsChC anAnsChC : Option Addr} {slAnsChC : Array (Option Value)} {ocAnsChC kVAnsChC dcAnsChC pmAnsChC cdAnsChC ctAnsChC : Value}
    {odAnsNb anAnsNb : Option Addr} {slAnsNb : Array (Option Value)} {ocAnsNb kVAnsNb dcAnsNb pmAnsNb cdAnsNb ctAnsNb : Value}
    {odAnsWo anAnsWo : Option Addr} {slAnsWo : Array (Option Value)} {ocAnsWo kVAnsWo dcAnsWo pmAnsWo cdAnsWo ctAnsWo : Value}
    {odAnsList anAnsList : Option Addr} {slAnsList : Array (Option Value)} {ocAnsList kVAnsList dcAnsList pmAnsList cdAnsList ctAnsList : Value}
    {odPerfQ anPerfQ : Option Addr} {slPerfQ : Array (Option Value)} {ocPerfQ kVPerfQ dcPerfQ pmPerfQ cdPerfQ ctPerfQ : Value}
    {odReadAll anReadAll : Option Addr} {slReadAll : Array (Option Value)} {ocReadAll kVReadAll dcReadAll pmReadAll cdReadAll ctReadAll : Value}
    {odPerform anPerform : Option Addr} {slPerform : Array (Option Value)} {ocPerform kVPerform dcPerform pmPerform cdPerform ctPerform : Value}
    {odAnswers anAnswers : Option Addr} {slAnswers : Array (Option Value)} {ocAnswers kVAnswers dcAnswers pmAnswers cdAnswers ctAnswers : Value}
    {odMatInit anMatInit : Option Addr} {slMatInit : Array (Option Value)} {ocMatInit kVMatInit dcMatInit pmMatInit cdMatInit ctMatInit : Value}
    {odMatPlace anMatPlace : Option Addr} {slMatPlace : Array (Option Value)} {ocMatPlace kVMatPlace dcMatPlace pmMatPlace cdMatPlace ctMatPlace : Value}
    {odInstInit anInstInit : Option Addr} {slInstInit : Array (Option Value)} {ocInstInit kVInstInit dcInstInit pmInstInit cdInstInit ctInstInit : Value}
    {odCallInit anCallInit : Option Addr} {slCallInit : Array (Option Value)} {ocCallInit kVCallInit dcCallInit pmCallInit cdCallInit ctCallInit : Value}
    {odRdInit anRdInit : Option Addr} {slRdInit : Array (Option Value)} {ocRdInit kVRdInit dcRdInit pmRdInit cdRdInit ctRdInit : Value}
    {odRdMore anRdMore : Option Addr} {slRdMore : Array (Option Value)} {ocRdMore kVRdMore dcRdMore pmRdMore cdRdMore ctRdMore : Value}
    {odRdNum anRdNum : Option Addr} {slRdNum : Array (Option Value)} {ocRdNum kVRdNum dcRdNum pmRdNum cdRdNum ctRdNum : Value}
    {odRdNums anRdNums : Option Addr} {slRdNums : Array (Option Value)} {ocRdNums kVRdNums dcRdNums pmRdNums cdRdNums ctRdNums : Value}
    {odRdRow anRdRow : Option Addr} {slRdRow : Array (Option Value)} {ocRdRow kVRdRow dcRdRow pmRdRow cdRdRow ctRdRow : Value}
    {odRdCall anRdCall : Option Addr} {slRdCall : Array (Option Value)} {ocRdCall kVRdCall dcRdCall pmRdCall cdRdCall ctRdCall : Value}
    {tNO_SUCH_INDEX tNO_INSTANCE tOUT_OF_RANGE tLIST_FULL tLEAST tGREATEST tMOST_RATINGS tCREATE tFIRST_QUERY tNOT_RUNNING : Tok}
    {esD esQ : List DictEntry} {nD nQ : Nat}
    {odF : Option Addr} {nF : Nat} {slF : Array (Option Value)}
    {odF0 : Option Addr} {nF0 : Nat} {slF0 : Array (Option Value)} {uF0 vF0 : Tok}
    {odF1 : Option Addr} {nF1 : Nat} {slF1 : Array (Option Value)} {uF1 vF1 : Tok}
    {odF2 : Option Addr} {nF2 : Nat} {slF2 : Array (Option Value)} {uF2 vF2 : Tok}
    {odF3 : Option Addr} {nF3 : Nat} {slF3 : Array (Option Value)} {uF3 vF3 : Tok}
    {odF4 : Option Addr} {nF4 : Nat} {slF4 : Array (Option Value)} {uF4 vF4 : Tok}
    {odF5 : Option Addr} {nF5 : Nat} {slF5 : Array (Option Value)} {uF5 vF5 : Tok}
    {odF6 : Option Addr} {nF6 : Nat} {slF6 : Array (Option Value)} {uF6 vF6 : Tok}
    {odF7 : Option Addr} {nF7 : Nat} {slF7 : Array (Option Value)} {uF7 vF7 : Tok}
    {odF8 : Option Addr} {nF8 : Nat} {slF8 : Array (Option Value)} {uF8 vF8 : Tok}
    {odF9 : Option Addr} {nF9 : Nat} {slF9 : Array (Option Value)} {uF9 vF9 : Tok}
    {odF10 : Option Addr} {nF10 : Nat} {slF10 : Array (Option Value)} {uF10 vF10 : Tok}
    {odF11 : Option Addr} {nF11 : Nat} {slF11 : Array (Option Value)} {uF11 vF11 : Tok}
    {odF12 : Option Addr} {nF12 : Nat} {slF12 : Array (Option Value)} {uF12 vF12 : Tok}
    {odF13 : Option Addr} {nF13 : Nat} {slF13 : Array (Option Value)} {uF13 vF13 : Tok}
    {odF14 : Option Addr} {nF14 : Nat} {slF14 : Array (Option Value)} {uF14 vF14 : Tok}
    {odF15 : Option Addr} {nF15 : Nat} {slF15 : Array (Option Value)} {uF15 vF15 : Tok}
    {odF16 : Option Addr} {nF16 : Nat} {slF16 : Array (Option Value)} {uF16 vF16 : Tok}
    (aIsIndex : PySem.W.nsIn K mainGlobals "is_index" = some (some (.ref fIsIndex)))
    (lIsIndex : K.lookup fIsIndex = some ⟨ocIsIndex, odIsIndex, .func (PySem.W.fnOf "is_index" "is_index" (defArgs sIsIndex) (defBody sIsIndex) (defScope sIsIndex) .none kVIsIndex dcIsIndex pmIsIndex anIsIndex cdIsIndex ctIsIndex), slIsIndex⟩)
    (cIsIndex : PySem.W.codeIn K cdIsIndex "is_index" = true)
    (kIsIndex : PySem.W.keepIn K (.ref fIsIndex) = true)
    (aIsRating : PySem.W.nsIn K mainGlobals "is_rating" = some (some (.ref fIsRating)))
    (lIsRating : K.lookup fIsRating = some ⟨ocIsRating, odIsRating, .func (PySem.W.fnOf "is_rating" "is_rating" (defArgs sIsRating) (defBody sIsRating) (defScope sIsRating) .none kVIsRating dcIsRating pmIsRating anIsRating cdIsRating ctIsRating), slIsRating⟩)
    (cIsRating : PySem.W.codeIn K cdIsRating "is_rating" = true)
    (kIsRating : PySem.W.keepIn K (.ref fIsRating) = true)
    (aAddR : PySem.W.nsIn K mainGlobals "add_rating" = some (some (.ref fAddR)))
    (lAddR : K.lookup fAddR = some ⟨ocAddR, odAddR, .func (PySem.W.fnOf "add_rating" "add_rating" (defArgs sAddR) (defBody sAddR) (defScope sAddR) .none kVAddR dcAddR pmAddR anAddR cdAddR ctAddR), slAddR⟩)
    (cAddR : PySem.W.codeIn K cdAddR "add_rating" = true)
    (kAddR : PySem.W.keepIn K (.ref fAddR) = true)
    (aRemR : PySem.W.nsIn K mainGlobals "remove_rating" = some (some (.ref fRemR)))
    (lRemR : K.lookup fRemR = some ⟨ocRemR, odRemR, .func (PySem.W.fnOf "remove_rating" "remove_rating" (defArgs sRemR) (defBody sRemR) (defScope sRemR) .none kVRemR dcRemR pmRemR anRemR cdRemR ctRemR), slRemR⟩)
    (cRemR : PySem.W.codeIn K cdRemR "remove_rating" = true)
    (kRemR : PySem.W.keepIn K (.ref fRemR) = true)
    (aSetR : PySem.W.nsIn K mainGlobals "set_rating" = some (some (.ref fSetR)))
    (lSetR : K.lookup fSetR = some ⟨ocSetR, odSetR, .func (PySem.W.fnOf "set_rating" "set_rating" (defArgs sSetR) (defBody sSetR) (defScope sSetR) .none kVSetR dcSetR pmSetR anSetR cdSetR ctSetR), slSetR⟩)
    (cSetR : PySem.W.codeIn K cdSetR "set_rating" = true)
    (kSetR : PySem.W.keepIn K (.ref fSetR) = true)
    (aAddMa : PySem.W.nsIn K mainGlobals "add_machine" = some (some (.ref fAddMa)))
    (lAddMa : K.lookup fAddMa = some ⟨ocAddMa, odAddMa, .func (PySem.W.fnOf "add_machine" "add_machine" (defArgs sAddMa) (defBody sAddMa) (defScope sAddMa) .none kVAddMa dcAddMa pmAddMa anAddMa cdAddMa ctAddMa), slAddMa⟩)
    (cAddMa : PySem.W.codeIn K cdAddMa "add_machine" = true)
    (kAddMa : PySem.W.keepIn K (.ref fAddMa) = true)
    (aAddMo : PySem.W.nsIn K mainGlobals "add_mould" = some (some (.ref fAddMo)))
    (lAddMo : K.lookup fAddMo = some ⟨ocAddMo, odAddMo, .func (PySem.W.fnOf "add_mould" "add_mould" (defArgs sAddMo) (defBody sAddMo) (defScope sAddMo) .none kVAddMo dcAddMo pmAddMo anAddMo cdAddMo ctAddMo), slAddMo⟩)
    (cAddMo : PySem.W.codeIn K cdAddMo "add_mould" = true)
    (kAddMo : PySem.W.keepIn K (.ref fAddMo) = true)
    (aRemMa : PySem.W.nsIn K mainGlobals "remove_machine" = some (some (.ref fRemMa)))
    (lRemMa : K.lookup fRemMa = some ⟨ocRemMa, odRemMa, .func (PySem.W.fnOf "remove_machine" "remove_machine" (defArgs sRemMa) (defBody sRemMa) (defScope sRemMa) .none kVRemMa dcRemMa pmRemMa anRemMa cdRemMa ctRemMa), slRemMa⟩)
    (cRemMa : PySem.W.codeIn K cdRemMa "remove_machine" = true)
    (kRemMa : PySem.W.keepIn K (.ref fRemMa) = true)
    (aRemMo : PySem.W.nsIn K mainGlobals "remove_mould" = some (some (.ref fRemMo)))
    (lRemMo : K.lookup fRemMo = some ⟨ocRemMo, odRemMo, .func (PySem.W.fnOf "remove_mould" "remove_mould" (defArgs sRemMo) (defBody sRemMo) (defScope sRemMo) .none kVRemMo dcRemMo pmRemMo anRemMo cdRemMo ctRemMo), slRemMo⟩)
    (cRemMo : PySem.W.codeIn K cdRemMo "remove_mould" = true)
    (kRemMo : PySem.W.keepIn K (.ref fRemMo) = true)
    (aSetMa : PySem.W.nsIn K mainGlobals "set_machine" = some (some (.ref fSetMa)))
    (lSetMa : K.lookup fSetMa = some ⟨ocSetMa, odSetMa, .func (PySem.W.fnOf "set_machine" "set_machine" (defArgs sSetMa) (defBody sSetMa) (defScope sSetMa) .none kVSetMa dcSetMa pmSetMa anSetMa cdSetMa ctSetMa), slSetMa⟩)
    (cSetMa : PySem.W.codeIn K cdSetMa "set_machine" = true)
    (kSetMa : PySem.W.keepIn K (.ref fSetMa) = true)
    (aSetMo : PySem.W.nsIn K mainGlobals "set_mould" = some (some (.ref fSetMo)))
    (lSetMo : K.lookup fSetMo = some ⟨ocSetMo, odSetMo, .func (PySem.W.fnOf "set_mould" "set_mould" (defArgs sSetMo) (defBody sSetMo) (defScope sSetMo) .none kVSetMo dcSetMo pmSetMo anSetMo cdSetMo ctSetMo), slSetMo⟩)
    (cSetMo : PySem.W.codeIn K cdSetMo "set_mould" = true)
    (kSetMo : PySem.W.keepIn K (.ref fSetMo) = true)
    (aPerfCh : PySem.W.nsIn K mainGlobals "perform_change" = some (some (.ref fPerfCh)))
    (lPerfCh : K.lookup fPerfCh = some ⟨ocPerfCh, odPerfCh, .func (PySem.W.fnOf "perform_change" "perform_change" (defArgs sPerfCh) (defBody sPerfCh) (defScope sPerfCh) .none kVPerfCh dcPerfCh pmPerfCh anPerfCh cdPerfCh ctPerfCh), slPerfCh⟩)
    (cPerfCh : PySem.W.codeIn K cdPerfCh "perform_change" = true)
    (kPerfCh : PySem.W.keepIn K (.ref fPerfCh) = true)
    (aFits : PySem.W.nsIn K mainGlobals "fits" = some (some (.ref fFits)))
    (lFits : K.lookup fFits = some ⟨ocFits, odFits, .func (PySem.W.fnOf "fits" "fits" (defArgs sFits) (defBody sFits) (defScope sFits) .none kVFits dcFits pmFits anFits cdFits ctFits), slFits⟩)
    (cFits : PySem.W.codeIn K cdFits "fits" = true)
    (kFits : PySem.W.keepIn K (.ref fFits) = true)
    (aFitM : PySem.W.nsIn K mainGlobals "fitting_machines" = some (some (.ref fFitM)))
    (lFitM : K.lookup fFitM = some ⟨ocFitM, odFitM, .func (PySem.W.fnOf "fitting_machines" "fitting_machines" (defArgs sFitM) (defBody sFitM) (defScope sFitM) .none kVFitM dcFitM pmFitM anFitM cdFitM ctFitM), slFitM⟩)
    (cFitM : PySem.W.codeIn K cdFitM "fitting_machines" = true)
    (kFitM : PySem.W.keepIn K (.ref fFitM) = true)
    (aCount : PySem.W.nsIn K mainGlobals "count_running" = some (some (.ref fCount)))
    (lCount : K.lookup fCount = some ⟨ocCount, odCount, .func (PySem.W.fnOf "count_running" "count_running" (defArgs sCount) (defBody sCount) (defScope sCount) .none kVCount dcCount pmCount anCount cdCount ctCount), slCount⟩)
    (cCount : PySem.W.codeIn K cdCount "count_running" = true)
    (kCount : PySem.W.keepIn K (.ref fCount) = true)
    (aRun : PySem.W.nsIn K mainGlobals "running_machines" = some (some (.ref fRun)))
    (lRun : K.lookup fRun = some ⟨ocRun, odRun, .func (PySem.W.fnOf "running_machines" "running_machines" (defArgs sRun) (defBody sRun) (defScope sRun) .none kVRun dcRun pmRun anRun cdRun ctRun), slRun⟩)
    (cRun : PySem.W.codeIn K cdRun "running_machines" = true)
    (kRun : PySem.W.keepIn K (.ref fRun) = true)
    (aSize : PySem.W.nsIn K mainGlobals "assignment_size" = some (some (.ref fSize)))
    (lSize : K.lookup fSize = some ⟨ocSize, odSize, .func (PySem.W.fnOf "assignment_size" "assignment_size" (defArgs sSize) (defBody sSize) (defScope sSize) .none kVSize dcSize pmSize anSize cdSize ctSize), slSize⟩)
    (cSize : PySem.W.codeIn K cdSize "assignment_size" = true)
    (kSize : PySem.W.keepIn K (.ref fSize) = true)
    (aValid : PySem.W.nsIn K mainGlobals "is_valid" = some (some (.ref fValid)))
    (lValid : K.lookup fValid = some ⟨ocValid, odValid, .func (PySem.W.fnOf "is_valid" "is_valid" (defArgs sValid) (defBody sValid) (defScope sValid) .none kVValid dcValid pmValid anValid cdValid ctValid), slValid⟩)
    (cValid : PySem.W.codeIn K cdValid "is_valid" = true)
    (kValid : PySem.W.keepIn K (.ref fValid) = true)
    (aLarge : PySem.W.nsIn K mainGlobals "largest_size_with" = some (some (.ref fLarge)))
    (lLarge : K.lookup fLarge = some ⟨ocLarge, odLarge, .func (PySem.W.fnOf "largest_size_with" "largest_size_with" (defArgs sLarge) (defBody sLarge) (defScope sLarge) .none kVLarge dcLarge pmLarge anLarge cdLarge ctLarge), slLarge⟩)
    (cLarge : PySem.W.codeIn K cdLarge "largest_size_with" = true)
    (kLarge : PySem.W.keepIn K (.ref fLarge) = true)
    (aNextE : PySem.W.nsIn K mainGlobals "next_best_entry" = some (some (.ref fNextE)))
    (lNextE : K.lookup fNextE = some ⟨ocNextE, odNextE, .func (PySem.W.fnOf "next_best_entry" "next_best_entry" (defArgs sNextE) (defBody sNextE) (defScope sNextE) .none kVNextE dcNextE pmNextE anNextE cdNextE ctNextE), slNextE⟩)
    (cNextE : PySem.W.codeIn K cdNextE "next_best_entry" = true)
    (kNextE : PySem.W.keepIn K (.ref fNextE) = true)
    (aBestA : PySem.W.nsIn K mainGlobals "best_assignment" = some (some (.ref fBestA)))
    (lBestA : K.lookup fBestA = some ⟨ocBestA, odBestA, .func (PySem.W.fnOf "best_assignment" "best_assignment" (defArgs sBestA) (defBody sBestA) (defScope sBestA) .none kVBestA dcBestA pmBestA anBestA cdBestA ctBestA), slBestA⟩)
    (cBestA : PySem.W.codeIn K cdBestA "best_assignment" = true)
    (kBestA : PySem.W.keepIn K (.ref fBestA) = true)
    (aSets : PySem.W.nsIn K mainGlobals "sets_by_bitmask" = some (some (.ref fSets)))
    (lSets : K.lookup fSets = some ⟨ocSets, odSets, .func (PySem.W.fnOf "sets_by_bitmask" "sets_by_bitmask" (defArgs sSets) (defBody sSets) (defScope sSets) .none kVSets dcSets pmSets anSets cdSets ctSets), slSets⟩)
    (cSets : PySem.W.codeIn K cdSets "sets_by_bitmask" = true)
    (kSets : PySem.W.keepIn K (.ref fSets) = true)
    (aFitsOne : PySem.W.nsIn K mainGlobals "fits_one" = some (some (.ref fFitsOne)))
    (lFitsOne : K.lookup fFitsOne = some ⟨ocFitsOne, odFitsOne, .func (PySem.W.fnOf "fits_one" "fits_one" (defArgs sFitsOne) (defBody sFitsOne) (defScope sFitsOne) .none kVFitsOne dcFitsOne pmFitsOne anFitsOne cdFitsOne ctFitsOne), slFitsOne⟩)
    (cFitsOne : PySem.W.codeIn K cdFitsOne "fits_one" = true)
    (kFitsOne : PySem.W.keepIn K (.ref fFitsOne) = true)
    (aNb : PySem.W.nsIn K mainGlobals "neighbours_of" = some (some (.ref fNb)))
    (lNb : K.lookup fNb = some ⟨ocNb, odNb, .func (PySem.W.fnOf "neighbours_of" "neighbours_of" (defArgs sNb) (defBody sNb) (defScope sNb) .none kVNb dcNb pmNb anNb cdNb ctNb), slNb⟩)
    (cNb : PySem.W.codeIn K cdNb "neighbours_of" = true)
    (kNb : PySem.W.keepIn K (.ref fNb) = true)
    (aDfc : PySem.W.nsIn K mainGlobals "deficiency" = some (some (.ref fDfc)))
    (lDfc : K.lookup fDfc = some ⟨ocDfc, odDfc, .func (PySem.W.fnOf "deficiency" "deficiency" (defArgs sDfc) (defBody sDfc) (defScope sDfc) .none kVDfc dcDfc pmDfc anDfc cdDfc ctDfc), slDfc⟩)
    (cDfc : PySem.W.codeIn K cdDfc "deficiency" = true)
    (kDfc : PySem.W.keepIn K (.ref fDfc) = true)
    (aDefSet : PySem.W.nsIn K mainGlobals "deficient_set" = some (some (.ref fDefSet)))
    (lDefSet : K.lookup fDefSet = some ⟨ocDefSet, odDefSet, .func (PySem.W.fnOf "deficient_set" "deficient_set" (defArgs sDefSet) (defBody sDefSet) (defScope sDefSet) .none kVDefSet dcDefSet pmDefSet anDefSet cdDefSet ctDefSet), slDefSet⟩)
    (cDefSet : PySem.W.codeIn K cdDefSet "deficient_set" = true)
    (kDefSet : PySem.W.keepIn K (.ref fDefSet) = true)
    (aToCov : PySem.W.nsIn K mainGlobals "machines_to_cover" = some (some (.ref fToCov)))
    (lToCov : K.lookup fToCov = some ⟨ocToCov, odToCov, .func (PySem.W.fnOf "machines_to_cover" "machines_to_cover" (defArgs sToCov) (defBody sToCov) (defScope sToCov) .none kVToCov dcToCov pmToCov anToCov cdToCov ctToCov), slToCov⟩)
    (cToCov : PySem.W.codeIn K cdToCov "machines_to_cover" = true)
    (kToCov : PySem.W.keepIn K (.ref fToCov) = true)
    (aIsCov : PySem.W.nsIn K mainGlobals "is_cover" = some (some (.ref fIsCov)))
    (lIsCov : K.lookup fIsCov = some ⟨ocIsCov, odIsCov, .func (PySem.W.fnOf "is_cover" "is_cover" (defArgs sIsCov) (defBody sIsCov) (defScope sIsCov) .none kVIsCov dcIsCov pmIsCov anIsCov cdIsCov ctIsCov), slIsCov⟩)
    (cIsCov : PySem.W.codeIn K cdIsCov "is_cover" = true)
    (kIsCov : PySem.W.keepIn K (.ref fIsCov) = true)
    (aCovSz : PySem.W.nsIn K mainGlobals "cover_size" = some (some (.ref fCovSz)))
    (lCovSz : K.lookup fCovSz = some ⟨ocCovSz, odCovSz, .func (PySem.W.fnOf "cover_size" "cover_size" (defArgs sCovSz) (defBody sCovSz) (defScope sCovSz) .none kVCovSz dcCovSz pmCovSz anCovSz cdCovSz ctCovSz), slCovSz⟩)
    (cCovSz : PySem.W.codeIn K cdCovSz "cover_size" = true)
    (kCovSz : PySem.W.keepIn K (.ref fCovSz) = true)
    (aMinCov : PySem.W.nsIn K mainGlobals "minimum_cover_moulds" = some (some (.ref fMinCov)))
    (lMinCov : K.lookup fMinCov = some ⟨ocMinCov, odMinCov, .func (PySem.W.fnOf "minimum_cover_moulds" "minimum_cover_moulds" (defArgs sMinCov) (defBody sMinCov) (defScope sMinCov) .none kVMinCov dcMinCov pmMinCov anMinCov cdMinCov ctMinCov), slMinCov⟩)
    (cMinCov : PySem.W.codeIn K cdMinCov "minimum_cover_moulds" = true)
    (kMinCov : PySem.W.keepIn K (.ref fMinCov) = true)
    (aTruth : PySem.W.nsIn K mainGlobals "truth_number" = some (some (.ref fTruth)))
    (lTruth : K.lookup fTruth = some ⟨ocTruth, odTruth, .func (PySem.W.fnOf "truth_number" "truth_number" (defArgs sTruth) (defBody sTruth) (defScope sTruth) .none kVTruth dcTruth pmTruth anTruth cdTruth ctTruth), slTruth⟩)
    (cTruth : PySem.W.codeIn K cdTruth "truth_number" = true)
    (kTruth : PySem.W.keepIn K (.ref fTruth) = true)
    (aIdxSet : PySem.W.nsIn K mainGlobals "is_index_set" = some (some (.ref fIdxSet)))
    (lIdxSet : K.lookup fIdxSet = some ⟨ocIdxSet, odIdxSet, .func (PySem.W.fnOf "is_index_set" "is_index_set" (defArgs sIdxSet) (defBody sIdxSet) (defScope sIdxSet) .none kVIdxSet dcIdxSet pmIdxSet anIdxSet cdIdxSet ctIdxSet), slIdxSet⟩)
    (cIdxSet : PySem.W.codeIn K cdIdxSet "is_index_set" = true)
    (kIdxSet : PySem.W.keepIn K (.ref fIdxSet) = true)
    (aAreE : PySem.W.nsIn K mainGlobals "are_entries" = some (some (.ref fAreE)))
    (lAreE : K.lookup fAreE = some ⟨ocAreE, odAreE, .func (PySem.W.fnOf "are_entries" "are_entries" (defArgs sAreE) (defBody sAreE) (defScope sAreE) .none kVAreE dcAreE pmAreE anAreE cdAreE ctAreE), slAreE⟩)
    (cAreE : PySem.W.codeIn K cdAreE "are_entries" = true)
    (kAreE : PySem.W.keepIn K (.ref fAreE) = true)
    (aCounted : PySem.W.nsIn K mainGlobals "counted_ratings" = some (some (.ref fCounted)))
    (lCounted : K.lookup fCounted = some ⟨ocCounted, odCounted, .func (PySem.W.fnOf "counted_ratings" "counted_ratings" (defArgs sCounted) (defBody sCounted) (defScope sCounted) .none kVCounted dcCounted pmCounted anCounted cdCounted ctCounted), slCounted⟩)
    (cCounted : PySem.W.codeIn K cdCounted "counted_ratings" = true)
    (kCounted : PySem.W.keepIn K (.ref fCounted) = true)
    (aAnsFits : PySem.W.nsIn K mainGlobals "answer_fits" = some (some (.ref fAnsFits)))
    (lAnsFits : K.lookup fAnsFits = some ⟨ocAnsFits, odAnsFits, .func (PySem.W.fnOf "answer_fits" "answer_fits" (defArgs sAnsFits) (defBody sAnsFits) (defScope sAnsFits) .none kVAnsFits dcAnsFits pmAnsFits anAnsFits cdAnsFits ctAnsFits), slAnsFits⟩)
    (cAnsFits : PySem.W.codeIn K cdAnsFits "answer_fits" = true)
    (kAnsFits : PySem.W.keepIn K (.ref fAnsFits) = true)
    (aAnsMax : PySem.W.nsIn K mainGlobals "answer_max_running" = some (some (.ref fAnsMax)))
    (lAnsMax : K.lookup fAnsMax = some ⟨ocAnsMax, odAnsMax, .func (PySem.W.fnOf "answer_max_running" "answer_max_running" (defArgs sAnsMax) (defBody sAnsMax) (defScope sAnsMax) .none kVAnsMax dcAnsMax pmAnsMax anAnsMax cdAnsMax ctAnsMax), slAnsMax⟩)
    (cAnsMax : PySem.W.codeIn K cdAnsMax "answer_max_running" = true)
    (kAnsMax : PySem.W.keepIn K (.ref fAnsMax) = true)
    (aAnsBest : PySem.W.nsIn K mainGlobals "answer_best_assignment" = some (some (.ref fAnsBest)))
    (lAnsBest : K.lookup fAnsBest = some ⟨ocAnsBest, odAnsBest, .func (PySem.W.fnOf "answer_best_assignment" "answer_best_assignment" (defArgs sAnsBest) (defBody sAnsBest) (defScope sAnsBest) .none kVAnsBest dcAnsBest pmAnsBest anAnsBest cdAnsBest ctAnsBest), slAnsBest⟩)
    (cAnsBest : PySem.W.codeIn K cdAnsBest "answer_best_assignment" = true)
    (kAnsBest : PySem.W.keepIn K (.ref fAnsBest) = true)
    (aAnsCov : PySem.W.nsIn K mainGlobals "answer_minimum_cover" = some (some (.ref fAnsCov)))
    (lAnsCov : K.lookup fAnsCov = some ⟨ocAnsCov, odAnsCov, .func (PySem.W.fnOf "answer_minimum_cover" "answer_minimum_cover" (defArgs sAnsCov) (defBody sAnsCov) (defScope sAnsCov) .none kVAnsCov dcAnsCov pmAnsCov anAnsCov cdAnsCov ctAnsCov), slAnsCov⟩)
    (cAnsCov : PySem.W.codeIn K cdAnsCov "answer_minimum_cover" = true)
    (kAnsCov : PySem.W.keepIn K (.ref fAnsCov) = true)
    (aAnsDef : PySem.W.nsIn K mainGlobals "answer_max_deficiency" = some (some (.ref fAnsDef)))
    (lAnsDef : K.lookup fAnsDef = some ⟨ocAnsDef, odAnsDef, .func (PySem.W.fnOf "answer_max_deficiency" "answer_max_deficiency" (defArgs sAnsDef) (defBody sAnsDef) (defScope sAnsDef) .none kVAnsDef dcAnsDef pmAnsDef anAnsDef cdAnsDef ctAnsDef), slAnsDef⟩)
    (cAnsDef : PySem.W.codeIn K cdAnsDef "answer_max_deficiency" = true)
    (kAnsDef : PySem.W.keepIn K (.ref fAnsDef) = true)
    (aAnsChA : PySem.W.nsIn K mainGlobals "answer_check_assignment" = some (some (.ref fAnsChA)))
    (lAnsChA : K.lookup fAnsChA = some ⟨ocAnsChA, odAnsChA, .func (PySem.W.fnOf "answer_check_assignment" "answer_check_assignment" (defArgs sAnsChA) (defBody sAnsChA) (defScope sAnsChA) .none kVAnsChA dcAnsChA pmAnsChA anAnsChA cdAnsChA ctAnsChA), slAnsChA⟩)
    (cAnsChA : PySem.W.codeIn K cdAnsChA "answer_check_assignment" = true)
    (kAnsChA : PySem.W.keepIn K (.ref fAnsChA) = true)
    (aAnsChC : PySem.W.nsIn K mainGlobals "answer_check_cover" = some (some (.ref fAnsChC)))
    (lAnsChC : K.lookup fAnsChC = some ⟨ocAnsChC, odAnsChC, .func (PySem.W.fnOf "answer_check_cover" "answer_check_cover" (defArgs sAnsChC) (defBody sAnsChC) (defScope sAnsChC) .none kVAnsChC dcAnsChC pmAnsChC anAnsChC cdAnsChC ctAnsChC), slAnsChC⟩)
    (cAnsChC : PySem.W.codeIn K cdAnsChC "answer_check_cover" = true)
    (kAnsChC : PySem.W.keepIn K (.ref fAnsChC) = true)
    (aAnsNb : PySem.W.nsIn K mainGlobals "answer_neighbours" = some (some (.ref fAnsNb)))
    (lAnsNb : K.lookup fAnsNb = some ⟨ocAnsNb, odAnsNb, .func (PySem.W.fnOf "answer_neighbours" "answer_neighbours" (defArgs sAnsNb) (defBody sAnsNb) (defScope sAnsNb) .none kVAnsNb dcAnsNb pmAnsNb anAnsNb cdAnsNb ctAnsNb), slAnsNb⟩)
    (cAnsNb : PySem.W.codeIn K cdAnsNb "answer_neighbours" = true)
    (kAnsNb : PySem.W.keepIn K (.ref fAnsNb) = true)
    (aAnsWo : PySem.W.nsIn K mainGlobals "answer_max_running_without" = some (some (.ref fAnsWo)))
    (lAnsWo : K.lookup fAnsWo = some ⟨ocAnsWo, odAnsWo, .func (PySem.W.fnOf "answer_max_running_without" "answer_max_running_without" (defArgs sAnsWo) (defBody sAnsWo) (defScope sAnsWo) .none kVAnsWo dcAnsWo pmAnsWo anAnsWo cdAnsWo ctAnsWo), slAnsWo⟩)
    (cAnsWo : PySem.W.codeIn K cdAnsWo "answer_max_running_without" = true)
    (kAnsWo : PySem.W.keepIn K (.ref fAnsWo) = true)
    (aAnsList : PySem.W.nsIn K mainGlobals "answer_list_ratings" = some (some (.ref fAnsList)))
    (lAnsList : K.lookup fAnsList = some ⟨ocAnsList, odAnsList, .func (PySem.W.fnOf "answer_list_ratings" "answer_list_ratings" (defArgs sAnsList) (defBody sAnsList) (defScope sAnsList) .none kVAnsList dcAnsList pmAnsList anAnsList cdAnsList ctAnsList), slAnsList⟩)
    (cAnsList : PySem.W.codeIn K cdAnsList "answer_list_ratings" = true)
    (kAnsList : PySem.W.keepIn K (.ref fAnsList) = true)
    (aPerfQ : PySem.W.nsIn K mainGlobals "perform_query" = some (some (.ref fPerfQ)))
    (lPerfQ : K.lookup fPerfQ = some ⟨ocPerfQ, odPerfQ, .func (PySem.W.fnOf "perform_query" "perform_query" (defArgs sPerfQ) (defBody sPerfQ) (defScope sPerfQ) .none kVPerfQ dcPerfQ pmPerfQ anPerfQ cdPerfQ ctPerfQ), slPerfQ⟩)
    (cPerfQ : PySem.W.codeIn K cdPerfQ "perform_query" = true)
    (kPerfQ : PySem.W.keepIn K (.ref fPerfQ) = true)
    (aReadAll : PySem.W.nsIn K mainGlobals "read_calls" = some (some (.ref fReadAll)))
    (lReadAll : K.lookup fReadAll = some ⟨ocReadAll, odReadAll, .func (PySem.W.fnOf "read_calls" "read_calls" (defArgs sReadAll) (defBody sReadAll) (defScope sReadAll) .none kVReadAll dcReadAll pmReadAll anReadAll cdReadAll ctReadAll), slReadAll⟩)
    (cReadAll : PySem.W.codeIn K cdReadAll "read_calls" = true)
    (kReadAll : PySem.W.keepIn K (.ref fReadAll) = true)
    (aPerform : PySem.W.nsIn K mainGlobals "perform" = some (some (.ref fPerform)))
    (lPerform : K.lookup fPerform = some ⟨ocPerform, odPerform, .func (PySem.W.fnOf "perform" "perform" (defArgs sPerform) (defBody sPerform) (defScope sPerform) .none kVPerform dcPerform pmPerform anPerform cdPerform ctPerform), slPerform⟩)
    (cPerform : PySem.W.codeIn K cdPerform "perform" = true)
    (kPerform : PySem.W.keepIn K (.ref fPerform) = true)
    (aAnswers : PySem.W.nsIn K mainGlobals "answers" = some (some (.ref fAnswers)))
    (lAnswers : K.lookup fAnswers = some ⟨ocAnswers, odAnswers, .func (PySem.W.fnOf "answers" "answers" (defArgs sAnswers) (defBody sAnswers) (defScope sAnswers) .none kVAnswers dcAnswers pmAnswers anAnswers cdAnswers ctAnswers), slAnswers⟩)
    (cAnswers : PySem.W.codeIn K cdAnswers "answers" = true)
    (kAnswers : PySem.W.keepIn K (.ref fAnswers) = true)
    (aCM : PySem.W.nsIn K mainGlobals "Matching" = some (some (.ref CM)))
    (aMatInit : PySem.W.findIn K (.ref CM) "__init__" = some (some (.ref fMatInit)))
    (iMatInit : PySem.W.isFn K (.ref fMatInit) = true)
    (lMatInit : K.lookup fMatInit = some ⟨ocMatInit, odMatInit, .func (PySem.W.fnOf "__init__" "Matching.__init__" (defArgs sMatInit) (defBody sMatInit) (defScope sMatInit) .none kVMatInit dcMatInit pmMatInit anMatInit cdMatInit ctMatInit), slMatInit⟩)
    (cMatInit : PySem.W.codeIn K cdMatInit "Matching.__init__" = true)
    (kMatInit : PySem.W.keepIn K (.ref fMatInit) = true)
    (aMatPlace : PySem.W.findIn K (.ref CM) "place" = some (some (.ref fMatPlace)))
    (iMatPlace : PySem.W.isFn K (.ref fMatPlace) = true)
    (lMatPlace : K.lookup fMatPlace = some ⟨ocMatPlace, odMatPlace, .func (PySem.W.fnOf "place" "Matching.place" (defArgs sPlace) (defBody sPlace) (defScope sPlace) .none kVMatPlace dcMatPlace pmMatPlace anMatPlace cdMatPlace ctMatPlace), slMatPlace⟩)
    (cMatPlace : PySem.W.codeIn K cdMatPlace "Matching.place" = true)
    (kMatPlace : PySem.W.keepIn K (.ref fMatPlace) = true)
    (pgCM : PySem.W.plainGet K CM Str.empty = true)
    (hdCM : PySem.W.hasDictIn K CM = true)
    (poCM : PySem.W.plainOver K CM = true)
    (saCM : PySem.W.findIn K (.ref CM) "__setattr__" = some (some (.builtin "object.__setattr__")))
    (mkCM : PySem.W.makesIn K CM = true)
    (kcCM : PySem.W.keepIn K (.ref CM) = true)
    (nCMchoices : PySem.W.findIn K (.ref CM) "choices" = some none)
    (nCMmould_on : PySem.W.findIn K (.ref CM) "mould_on" = some none)
    (aCI : PySem.W.nsIn K mainGlobals "Instance" = some (some (.ref CI)))
    (aInstInit : PySem.W.findIn K (.ref CI) "__init__" = some (some (.ref fInstInit)))
    (iInstInit : PySem.W.isFn K (.ref fInstInit) = true)
    (lInstInit : K.lookup fInstInit = some ⟨ocInstInit, odInstInit, .func (PySem.W.fnOf "__init__" "Instance.__init__" (defArgs sInstInit) (defBody sInstInit) (defScope sInstInit) .none kVInstInit dcInstInit pmInstInit anInstInit cdInstInit ctInstInit), slInstInit⟩)
    (cInstInit : PySem.W.codeIn K cdInstInit "Instance.__init__" = true)
    (kInstInit : PySem.W.keepIn K (.ref fInstInit) = true)
    (pgCI : PySem.W.plainGet K CI Str.empty = true)
    (hdCI : PySem.W.hasDictIn K CI = true)
    (poCI : PySem.W.plainOver K CI = true)
    (saCI : PySem.W.findIn K (.ref CI) "__setattr__" = some (some (.builtin "object.__setattr__")))
    (mkCI : PySem.W.makesIn K CI = true)
    (kcCI : PySem.W.keepIn K (.ref CI) = true)
    (nCImachines : PySem.W.findIn K (.ref CI) "machines" = some none)
    (nCImoulds : PySem.W.findIn K (.ref CI) "moulds" = some none)
    (aCC : PySem.W.nsIn K mainGlobals "Call" = some (some (.ref CC)))
    (aCallInit : PySem.W.findIn K (.ref CC) "__init__" = some (some (.ref fCallInit)))
    (iCallInit : PySem.W.isFn K (.ref fCallInit) = true)
    (lCallInit : K.lookup fCallInit = some ⟨ocCallInit, odCallInit, .func (PySem.W.fnOf "__init__" "Call.__init__" (defArgs sCallInit) (defBody sCallInit) (defScope sCallInit) .none kVCallInit dcCallInit pmCallInit anCallInit cdCallInit ctCallInit), slCallInit⟩)
    (cCallInit : PySem.W.codeIn K cdCallInit "Call.__init__" = true)
    (kCallInit : PySem.W.keepIn K (.ref fCallInit) = true)
    (pgCC : PySem.W.plainGet K CC Str.empty = true)
    (hdCC : PySem.W.hasDictIn K CC = true)
    (poCC : PySem.W.plainOver K CC = true)
    (saCC : PySem.W.findIn K (.ref CC) "__setattr__" = some (some (.builtin "object.__setattr__")))
    (mkCC : PySem.W.makesIn K CC = true)
    (kcCC : PySem.W.keepIn K (.ref CC) = true)
    (nCCnumber : PySem.W.findIn K (.ref CC) "number" = some none)
    (nCCnumbers : PySem.W.findIn K (.ref CC) "numbers" = some none)
    (nCCrows : PySem.W.findIn K (.ref CC) "rows" = some none)
    (aCR : PySem.W.nsIn K mainGlobals "CallReader" = some (some (.ref CR)))
    (aRdInit : PySem.W.findIn K (.ref CR) "__init__" = some (some (.ref fRdInit)))
    (iRdInit : PySem.W.isFn K (.ref fRdInit) = true)
    (lRdInit : K.lookup fRdInit = some ⟨ocRdInit, odRdInit, .func (PySem.W.fnOf "__init__" "CallReader.__init__" (defArgs sRdInit) (defBody sRdInit) (defScope sRdInit) .none kVRdInit dcRdInit pmRdInit anRdInit cdRdInit ctRdInit), slRdInit⟩)
    (cRdInit : PySem.W.codeIn K cdRdInit "CallReader.__init__" = true)
    (kRdInit : PySem.W.keepIn K (.ref fRdInit) = true)
    (aRdMore : PySem.W.findIn K (.ref CR) "has_more" = some (some (.ref fRdMore)))
    (iRdMore : PySem.W.isFn K (.ref fRdMore) = true)
    (lRdMore : K.lookup fRdMore = some ⟨ocRdMore, odRdMore, .func (PySem.W.fnOf "has_more" "CallReader.has_more" (defArgs sRdMore) (defBody sRdMore) (defScope sRdMore) .none kVRdMore dcRdMore pmRdMore anRdMore cdRdMore ctRdMore), slRdMore⟩)
    (cRdMore : PySem.W.codeIn K cdRdMore "CallReader.has_more" = true)
    (kRdMore : PySem.W.keepIn K (.ref fRdMore) = true)
    (aRdNum : PySem.W.findIn K (.ref CR) "take_number" = some (some (.ref fRdNum)))
    (iRdNum : PySem.W.isFn K (.ref fRdNum) = true)
    (lRdNum : K.lookup fRdNum = some ⟨ocRdNum, odRdNum, .func (PySem.W.fnOf "take_number" "CallReader.take_number" (defArgs sRdNum) (defBody sRdNum) (defScope sRdNum) .none kVRdNum dcRdNum pmRdNum anRdNum cdRdNum ctRdNum), slRdNum⟩)
    (cRdNum : PySem.W.codeIn K cdRdNum "CallReader.take_number" = true)
    (kRdNum : PySem.W.keepIn K (.ref fRdNum) = true)
    (aRdNums : PySem.W.findIn K (.ref CR) "take_numbers" = some (some (.ref fRdNums)))
    (iRdNums : PySem.W.isFn K (.ref fRdNums) = true)
    (lRdNums : K.lookup fRdNums = some ⟨ocRdNums, odRdNums, .func (PySem.W.fnOf "take_numbers" "CallReader.take_numbers" (defArgs sRdNums) (defBody sRdNums) (defScope sRdNums) .none kVRdNums dcRdNums pmRdNums anRdNums cdRdNums ctRdNums), slRdNums⟩)
    (cRdNums : PySem.W.codeIn K cdRdNums "CallReader.take_numbers" = true)
    (kRdNums : PySem.W.keepIn K (.ref fRdNums) = true)
    (aRdRow : PySem.W.findIn K (.ref CR) "take_row" = some (some (.ref fRdRow)))
    (iRdRow : PySem.W.isFn K (.ref fRdRow) = true)
    (lRdRow : K.lookup fRdRow = some ⟨ocRdRow, odRdRow, .func (PySem.W.fnOf "take_row" "CallReader.take_row" (defArgs sRdRow) (defBody sRdRow) (defScope sRdRow) .none kVRdRow dcRdRow pmRdRow anRdRow cdRdRow ctRdRow), slRdRow⟩)
    (cRdRow : PySem.W.codeIn K cdRdRow "CallReader.take_row" = true)
    (kRdRow : PySem.W.keepIn K (.ref fRdRow) = true)
    (aRdCall : PySem.W.findIn K (.ref CR) "take_call" = some (some (.ref fRdCall)))
    (iRdCall : PySem.W.isFn K (.ref fRdCall) = true)
    (lRdCall : K.lookup fRdCall = some ⟨ocRdCall, odRdCall, .func (PySem.W.fnOf "take_call" "CallReader.take_call" (defArgs sRdCall) (defBody sRdCall) (defScope sRdCall) .none kVRdCall dcRdCall pmRdCall anRdCall cdRdCall ctRdCall), slRdCall⟩)
    (cRdCall : PySem.W.codeIn K cdRdCall "CallReader.take_call" = true)
    (kRdCall : PySem.W.keepIn K (.ref fRdCall) = true)
    (pgCR : PySem.W.plainGet K CR Str.empty = true)
    (hdCR : PySem.W.hasDictIn K CR = true)
    (poCR : PySem.W.plainOver K CR = true)
    (saCR : PySem.W.findIn K (.ref CR) "__setattr__" = some (some (.builtin "object.__setattr__")))
    (mkCR : PySem.W.makesIn K CR = true)
    (kcCR : PySem.W.keepIn K (.ref CR) = true)
    (nCRcalls : PySem.W.findIn K (.ref CR) "calls" = some none)
    (nCRposition : PySem.W.findIn K (.ref CR) "position" = some none)
    (vNO_SUCH_INDEX : PySem.W.nsIn K mainGlobals "NO_SUCH_INDEX" = some (some (.int (-2) tNO_SUCH_INDEX)))
    (vNO_INSTANCE : PySem.W.nsIn K mainGlobals "NO_INSTANCE" = some (some (.int (-11) tNO_INSTANCE)))
    (vOUT_OF_RANGE : PySem.W.nsIn K mainGlobals "OUT_OF_RANGE" = some (some (.int (-22) tOUT_OF_RANGE)))
    (vLIST_FULL : PySem.W.nsIn K mainGlobals "LIST_FULL" = some (some (.int (-28) tLIST_FULL)))
    (vLEAST : PySem.W.nsIn K mainGlobals "LEAST" = some (some (.int (1) tLEAST)))
    (vGREATEST : PySem.W.nsIn K mainGlobals "GREATEST" = some (some (.int (999) tGREATEST)))
    (vMOST_RATINGS : PySem.W.nsIn K mainGlobals "MOST_RATINGS" = some (some (.int (5) tMOST_RATINGS)))
    (vCREATE : PySem.W.nsIn K mainGlobals "CREATE" = some (some (.int (0) tCREATE)))
    (vFIRST_QUERY : PySem.W.nsIn K mainGlobals "FIRST_QUERY" = some (some (.int (7) tFIRST_QUERY)))
    (vNOT_RUNNING : PySem.W.nsIn K mainGlobals "NOT_RUNNING" = some (some (.int (-1) tNOT_RUNNING)))
    (zlen : PySem.W.nsIn K mainGlobals "len" = some none)
    (zenumerate : PySem.W.nsIn K mainGlobals "enumerate" = some none)
    (zrange : PySem.W.nsIn K mainGlobals "range" = some none)
    (zset : PySem.W.nsIn K mainGlobals "set" = some none)
    (zany : PySem.W.nsIn K mainGlobals "any" = some none)
    (zall : PySem.W.nsIn K mainGlobals "all" = some none)
    (zmax : PySem.W.nsIn K mainGlobals "max" = some none)
    (aD : PySem.W.nsIn K mainGlobals "CHANGES" = some (some (.ref dC)))
    (lD : K.lookup dC = some ⟨.type "dict", none, .dict (List.toArray esD) nD, #[]⟩)
    (eD : EntsOk esD [(1, fAddMa), (2, fAddMo), (3, fRemMa), (4, fRemMo), (5, fSetMa), (6, fSetMo)])
    (aQ : PySem.W.nsIn K mainGlobals "QUERIES" = some (some (.ref dQ)))
    (lQ : K.lookup dQ = some ⟨.type "dict", none, .dict (List.toArray esQ) nQ, #[]⟩)
    (eQ : EntsOk esQ [(7, fAnsFits), (8, fAnsMax), (9, fAnsBest), (10, fAnsCov), (11, fAnsDef), (12, fAnsChA), (13, fAnsChC), (14, fAnsNb), (15, fAnsWo), (16, fAnsList)])
    (aF : PySem.W.nsIn K mainGlobals "CALL_FORMS" = some (some (.ref dF)))
    (lF : K.lookup dF = some ⟨.type "tuple", odF, .seq (List.toArray [.ref tF0, .ref tF1, .ref tF2, .ref tF3, .ref tF4, .ref tF5, .ref tF6, .ref tF7, .ref tF8, .ref tF9, .ref tF10, .ref tF11, .ref tF12, .ref tF13, .ref tF14, .ref tF15, .ref tF16]) nF, slF⟩)
    (lF0 : K.lookup tF0 = some ⟨.type "tuple", odF0, .seq (List.toArray [.int 0 uF0, .int 0 vF0]) nF0, slF0⟩)
    (lF1 : K.lookup tF1 = some ⟨.type "tuple", odF1, .seq (List.toArray [.int 2 uF1, .int 0 vF1]) nF1, slF1⟩)
    (lF2 : K.lookup tF2 = some ⟨.type "tuple", odF2, .seq (List.toArray [.int 2 uF2, .int 0 vF2]) nF2, slF2⟩)
    (lF3 : K.lookup tF3 = some ⟨.type "tuple", odF3, .seq (List.toArray [.int 1 uF3, .int 0 vF3]) nF3, slF3⟩)
    (lF4 : K.lookup tF4 = some ⟨.type "tuple", odF4, .seq (List.toArray [.int 1 uF4, .int 0 vF4]) nF4, slF4⟩)
    (lF5 : K.lookup tF5 = some ⟨.type "tuple", odF5, .seq (List.toArray [.int 3 uF5, .int 0 vF5]) nF5, slF5⟩)
    (lF6 : K.lookup tF6 = some ⟨.type "tuple", odF6, .seq (List.toArray [.int 3 uF6, .int 0 vF6]) nF6, slF6⟩)
    (lF7 : K.lookup tF7 = some ⟨.type "tuple", odF7, .seq (List.toArray [.int 2 uF7, .int 0 vF7]) nF7, slF7⟩)
    (lF8 : K.lookup tF8 = some ⟨.type "tuple", odF8, .seq (List.toArray [.int 0 uF8, .int 0 vF8]) nF8, slF8⟩)
    (lF9 : K.lookup tF9 = some ⟨.type "tuple", odF9, .seq (List.toArray [.int 0 uF9, .int 0 vF9]) nF9, slF9⟩)
    (lF10 : K.lookup tF10 = some ⟨.type "tuple", odF10, .seq (List.toArray [.int 0 uF10, .int 0 vF10]) nF10, slF10⟩)
    (lF11 : K.lookup tF11 = some ⟨.type "tuple", odF11, .seq (List.toArray [.int 0 uF11, .int 0 vF11]) nF11, slF11⟩)
    (lF12 : K.lookup tF12 = some ⟨.type "tuple", odF12, .seq (List.toArray [.int 0 uF12, .int 1 vF12]) nF12, slF12⟩)
    (lF13 : K.lookup tF13 = some ⟨.type "tuple", odF13, .seq (List.toArray [.int 0 uF13, .int 2 vF13]) nF13, slF13⟩)
    (lF14 : K.lookup tF14 = some ⟨.type "tuple", odF14, .seq (List.toArray [.int 0 uF14, .int 1 vF14]) nF14, slF14⟩)
    (lF15 : K.lookup tF15 = some ⟨.type "tuple", odF15, .seq (List.toArray [.int 1 uF15, .int 0 vF15]) nF15, slF15⟩)
    (lF16 : K.lookup tF16 = some ⟨.type "tuple", odF16, .seq (List.toArray [.int 0 uF16, .int 0 vF16]) nF16, slF16⟩) :
    ∃ fd : FuncData, (∀ (s : Shared) (us : List Value), us.length = (["calls"] : List Str).length → BindsTo s fd ⟨us, []⟩ ((["calls"] : List Str).zip us)) ∧ ∀ base : Heap, K.In base → base.Ns mainGlobals mg → FnOk P w K mg base CX0 26 fa fd ["calls"] (spAns K) := by
  have e := hfa.symm.trans (PySem.W.mg_of X G aAnswers)
  cases e
  have mlen := PySem.W.mg_none_of X G zlen
  have menumerate := PySem.W.mg_none_of X G zenumerate
  have mrange := PySem.W.mg_none_of X G zrange
  have mset := PySem.W.mg_none_of X G zset
  have many := PySem.W.mg_none_of X G zany
  have mall := PySem.W.mg_none_of X G zall
  have mmax := PySem.W.mg_none_of X G zmax
  have ml := mlen
  have vF : ∀ {k m : Nat} {u v : Tok}, Vals [V.int (k : Int), V.int (m : Int)] [Value.int (k : Int) u, Value.int (m : Int) v] := .cons ⟨_, rfl⟩ (.cons ⟨_, rfl⟩ .nil)
  have hFs : FormsLs K 0 [tF0, tF1, tF2, tF3, tF4, tF5, tF6, tF7, tF8, tF9, tF10, tF11, tF12, tF13, tF14, tF15, tF16] := ⟨⟨0, 0, rfl, tupK_of lF0 (vF (k := 0) (m := 0)) (by simp)⟩, ⟨⟨2, 0, rfl, tupK_of lF1 (vF (k := 2) (m := 0)) (by simp)⟩, ⟨⟨2, 0, rfl, tupK_of lF2 (vF (k := 2) (m := 0)) (by simp)⟩, ⟨⟨1, 0, rfl, tupK_of lF3 (vF (k := 1) (m := 0)) (by simp)⟩, ⟨⟨1, 0, rfl, tupK_of lF4 (vF (k := 1) (m := 0)) (by simp)⟩, ⟨⟨3, 0, rfl, tupK_of lF5 (vF (k := 3) (m := 0)) (by simp)⟩, ⟨⟨3, 0, rfl, tupK_of lF6 (vF (k := 3) (m := 0)) (by simp)⟩, ⟨⟨2, 0, rfl, tupK_of lF7 (vF (k := 2) (m := 0)) (by simp)⟩, ⟨⟨0, 0, rfl, tupK_of lF8 (vF (k := 0) (m := 0)) (by simp)⟩, ⟨⟨0, 0, rfl, tupK_of lF9 (vF (k := 0) (m := 0)) (by simp)⟩, ⟨⟨0, 0, rfl, tupK_of lF10 (vF (k := 0) (m := 0)) (by simp)⟩, ⟨⟨0, 0, rfl, tupK_of lF11 (vF (k := 0) (m := 0)) (by simp)⟩, ⟨⟨0, 1, rfl, tupK_of lF12 (vF (k := 0) (m := 1)) (by simp)⟩, ⟨⟨0, 2, rfl, tupK_of lF13 (vF (k := 0) (m := 2)) (by simp)⟩, ⟨⟨0, 1, rfl, tupK_of lF14 (vF (k := 0) (m := 1)) (by simp)⟩, ⟨⟨1, 0, rfl, tupK_of lF15 (vF (k := 1) (m := 0)) (by simp)⟩, ⟨⟨0, 0, rfl, tupK_of lF16 (vF (k := 0) (m := 0)) (by simp)⟩, trivial⟩⟩⟩⟩⟩⟩⟩⟩⟩⟩⟩⟩⟩⟩⟩⟩⟩
  have hF : FormsAt K dF := ⟨[tF0, tF1, tF2, tF3, tF4, tF5, tF6, tF7, tF8, tF9, tF10, tF11, tF12, tF13, tF14, tF15, tF16], tupK_of lF (.cons rfl (.cons rfl (.cons rfl (.cons rfl (.cons rfl (.cons rfl (.cons rfl (.cons rfl (.cons rfl (.cons rfl (.cons rfl (.cons rfl (.cons rfl (.cons rfl (.cons rfl (.cons rfl (.cons rfl .nil))))))))))))))))) (by simp), rfl, fun i a e => by have := forms_get hFs i a e; rw [Nat.zero_add] at this; exact this⟩
  have mNO_SUCH_INDEX := num_of X G vNO_SUCH_INDEX
  have mNO_INSTANCE := num_of X G vNO_INSTANCE
  have mOUT_OF_RANGE := num_of X G vOUT_OF_RANGE
  have mLIST_FULL := num_of X G vLIST_FULL
  have mLEAST := num_of X G vLEAST
  have mGREATEST := num_of X G vGREATEST
  have mMOST_RATINGS := num_of X G vMOST_RATINGS
  have mCREATE := num_of X G vCREATE
  have mFIRST_QUERY := num_of X G vFIRST_QUERY
  have mNOT_RUNNING := num_of X G vNOT_RUNNING
  have TCM : TMat K CM := ⟨⟨pgCM, hdCM, poCM, saCM⟩, nCMchoices, nCMmould_on⟩
  have MCM : Mk K CM fMatInit := ⟨mkCM, aMatInit, iMatInit, kcCM⟩
  have TCI : TInst K CI := ⟨⟨pgCI, hdCI, poCI, saCI⟩, nCImachines, nCImoulds⟩
  have MCI : Mk K CI fInstInit := ⟨mkCI, aInstInit, iInstInit, kcCI⟩
  have TCC : TCall K CC := ⟨⟨pgCC, hdCC, poCC, saCC⟩, nCCnumber, nCCnumbers, nCCrows⟩
  have MCC : Mk K CC fCallInit := ⟨mkCC, aCallInit, iCallInit, kcCC⟩
  have TCR : TRd K CR := ⟨⟨pgCR, hdCR, poCR, saCR⟩, nCRcalls, nCRposition⟩
  have MCR : Mk K CR fRdInit := ⟨mkCR, aRdInit, iRdInit, kcCR⟩
  have FIsIndex := fun_mk (st := sIsIndex) lIsIndex cIsIndex kIsIndex
  have bIsIndex := FIsIndex.binds (ps := ["ratings", "index"]) fun _ _ _ _ _ _ us hl => match us, hl with | [_, _], _ => rfl
  have FIsRating := fun_mk (st := sIsRating) lIsRating cIsRating kIsRating
  have bIsRating := FIsRating.binds (ps := ["rating"]) fun _ _ _ _ _ _ us hl => match us, hl with | [_], _ => rfl
  have FAddR := fun_mk (st := sAddR) lAddR cAddR kAddR
  have bAddR := FAddR.binds (ps := ["ratings", "numbers"]) fun _ _ _ _ _ _ us hl => match us, hl with | [_, _], _ => rfl
  have FRemR := fun_mk (st := sRemR) lRemR cRemR kRemR
  have bRemR := FRemR.binds (ps := ["ratings", "numbers"]) fun _ _ _ _ _ _ us hl => match us, hl with | [_, _], _ => rfl
  have FSetR := fun_mk (st := sSetR) lSetR cSetR kSetR
  have bSetR := FSetR.binds (ps := ["ratings", "numbers"]) fun _ _ _ _ _ _ us hl => match us, hl with | [_, _], _ => rfl
  have FAddMa := fun_mk (st := sAddMa) lAddMa cAddMa kAddMa
  have bAddMa := FAddMa.binds (ps := ["instance", "numbers"]) fun _ _ _ _ _ _ us hl => match us, hl with | [_, _], _ => rfl
  have FAddMo := fun_mk (st := sAddMo) lAddMo cAddMo kAddMo
  have bAddMo := FAddMo.binds (ps := ["instance", "numbers"]) fun _ _ _ _ _ _ us hl => match us, hl with | [_, _], _ => rfl
  have FRemMa := fun_mk (st := sRemMa) lRemMa cRemMa kRemMa
  have bRemMa := FRemMa.binds (ps := ["instance", "numbers"]) fun _ _ _ _ _ _ us hl => match us, hl with | [_, _], _ => rfl
  have FRemMo := fun_mk (st := sRemMo) lRemMo cRemMo kRemMo
  have bRemMo := FRemMo.binds (ps := ["instance", "numbers"]) fun _ _ _ _ _ _ us hl => match us, hl with | [_, _], _ => rfl
  have FSetMa := fun_mk (st := sSetMa) lSetMa cSetMa kSetMa
  have bSetMa := FSetMa.binds (ps := ["instance", "numbers"]) fun _ _ _ _ _ _ us hl => match us, hl with | [_, _], _ => rfl
  have FSetMo := fun_mk (st := sSetMo) lSetMo cSetMo kSetMo
  have bSetMo := FSetMo.binds (ps := ["instance", "numbers"]) fun _ _ _ _ _ _ us hl => match us, hl with | [_, _], _ => rfl
  have FPerfCh := fun_mk (st := sPerfCh) lPerfCh cPerfCh kPerfCh
  have bPerfCh := FPerfCh.binds (ps := ["instance", "call"]) fun _ _ _ _ _ _ us hl => match us, hl with | [_, _], _ => rfl
  have FFits := fun_mk (st := sFits) lFits cFits kFits
  have bFits := FFits.binds (ps := ["mould", "machine"]) fun _ _ _ _ _ _ us hl => match us, hl with | [_, _], _ => rfl
  have FFitM := fun_mk (st := sFitM) lFitM cFitM kFitM
  have bFitM := FFitM.binds (ps := ["mould", "machines"]) fun _ _ _ _ _ _ us hl => match us, hl with | [_, _], _ => rfl
  have FCount := fun_mk (st := sCount) lCount cCount kCount
  have bCount := FCount.binds (ps := ["moulds", "machines"]) fun _ _ _ _ _ _ us hl => match us, hl with | [_, _], _ => rfl
  have FRun := fun_mk (st := sRun) lRun cRun kRun
  have bRun := FRun.binds (ps := ["entries"]) fun _ _ _ _ _ _ us hl => match us, hl with | [_], _ => rfl
  have FSize := fun_mk (st := sSize) lSize cSize kSize
  have bSize := FSize.binds (ps := ["entries"]) fun _ _ _ _ _ _ us hl => match us, hl with | [_], _ => rfl
  have FValid := fun_mk (st := sValid) lValid cValid kValid
  have bValid := FValid.binds (ps := ["entries", "moulds", "machines"]) fun _ _ _ _ _ _ us hl => match us, hl with | [_, _, _], _ => rfl
  have FLarge := fun_mk (st := sLarge) lLarge cLarge kLarge
  have bLarge := FLarge.binds (ps := ["entries", "moulds", "machines"]) fun _ _ _ _ _ _ us hl => match us, hl with | [_, _, _], _ => rfl
  have FNextE := fun_mk (st := sNextE) lNextE cNextE kNextE
  have bNextE := FNextE.binds (ps := ["entries", "size", "moulds", "machines"]) fun _ _ _ _ _ _ us hl => match us, hl with | [_, _, _, _], _ => rfl
  have FBestA := fun_mk (st := sBestA) lBestA cBestA kBestA
  have bBestA := FBestA.binds (ps := ["moulds", "machines"]) fun _ _ _ _ _ _ us hl => match us, hl with | [_, _], _ => rfl
  have FSets := fun_mk (st := sSets) lSets cSets kSets
  have bSets := FSets.binds (ps := ["how_many"]) fun _ _ _ _ _ _ us hl => match us, hl with | [_], _ => rfl
  have FFitsOne := fun_mk (st := sFitsOne) lFitsOne cFitsOne kFitsOne
  have bFitsOne := FFitsOne.binds (ps := ["machine", "chosen", "moulds"]) fun _ _ _ _ _ _ us hl => match us, hl with | [_, _, _], _ => rfl
  have FNb := fun_mk (st := sNb) lNb cNb kNb
  have bNb := FNb.binds (ps := ["chosen", "moulds", "machines"]) fun _ _ _ _ _ _ us hl => match us, hl with | [_, _, _], _ => rfl
  have FDfc := fun_mk (st := sDfc) lDfc cDfc kDfc
  have bDfc := FDfc.binds (ps := ["chosen", "moulds", "machines"]) fun _ _ _ _ _ _ us hl => match us, hl with | [_, _, _], _ => rfl
  have FDefSet := fun_mk (st := sDefSet) lDefSet cDefSet kDefSet
  have bDefSet := FDefSet.binds (ps := ["moulds", "machines"]) fun _ _ _ _ _ _ us hl => match us, hl with | [_, _], _ => rfl
  have FToCov := fun_mk (st := sToCov) lToCov cToCov kToCov
  have bToCov := FToCov.binds (ps := ["chosen", "moulds", "machines"]) fun _ _ _ _ _ _ us hl => match us, hl with | [_, _, _], _ => rfl
  have FIsCov := fun_mk (st := sIsCov) lIsCov cIsCov kIsCov
  have bIsCov := FIsCov.binds (ps := ["chosen", "taken", "moulds", "machines"]) fun _ _ _ _ _ _ us hl => match us, hl with | [_, _, _, _], _ => rfl
  have FCovSz := fun_mk (st := sCovSz) lCovSz cCovSz kCovSz
  have bCovSz := FCovSz.binds (ps := ["chosen", "moulds", "machines"]) fun _ _ _ _ _ _ us hl => match us, hl with | [_, _, _], _ => rfl
  have FMinCov := fun_mk (st := sMinCov) lMinCov cMinCov kMinCov
  have bMinCov := FMinCov.binds (ps := ["moulds", "machines"]) fun _ _ _ _ _ _ us hl => match us, hl with | [_, _], _ => rfl
  have FTruth := fun_mk (st := sTruth) lTruth cTruth kTruth
  have bTruth := FTruth.binds (ps := ["truth"]) fun _ _ _ _ _ _ us hl => match us, hl with | [_], _ => rfl
  have FIdxSet := fun_mk (st := sIdxSet) lIdxSet cIdxSet kIdxSet
  have bIdxSet := FIdxSet.binds (ps := ["ratings", "indices"]) fun _ _ _ _ _ _ us hl => match us, hl with | [_, _], _ => rfl
  have FAreE := fun_mk (st := sAreE) lAreE cAreE kAreE
  have bAreE := FAreE.binds (ps := ["entries", "instance"]) fun _ _ _ _ _ _ us hl => match us, hl with | [_, _], _ => rfl
  have FCounted := fun_mk (st := sCounted) lCounted cCounted kCounted
  have bCounted := FCounted.binds (ps := ["ratings"]) fun _ _ _ _ _ _ us hl => match us, hl with | [_], _ => rfl
  have FAnsFits := fun_mk (st := sAnsFits) lAnsFits cAnsFits kAnsFits
  have bAnsFits := FAnsFits.binds (ps := ["instance", "call"]) fun _ _ _ _ _ _ us hl => match us, hl with | [_, _], _ => rfl
  have FAnsMax := fun_mk (st := sAnsMax) lAnsMax cAnsMax kAnsMax
  have bAnsMax := FAnsMax.binds (ps := ["instance", "call"]) fun _ _ _ _ _ _ us hl => match us, hl with | [_, _], _ => rfl
  have FAnsBest := fun_mk (st := sAnsBest) lAnsBest cAnsBest kAnsBest
  have bAnsBest := FAnsBest.binds (ps := ["instance", "call"]) fun _ _ _ _ _ _ us hl => match us, hl with | [_, _], _ => rfl
  have FAnsCov := fun_mk (st := sAnsCov) lAnsCov cAnsCov kAnsCov
  have bAnsCov := FAnsCov.binds (ps := ["instance", "call"]) fun _ _ _ _ _ _ us hl => match us, hl with | [_, _], _ => rfl
  have FAnsDef := fun_mk (st := sAnsDef) lAnsDef cAnsDef kAnsDef
  have bAnsDef := FAnsDef.binds (ps := ["instance", "call"]) fun _ _ _ _ _ _ us hl => match us, hl with | [_, _], _ => rfl
  have FAnsChA := fun_mk (st := sAnsChA) lAnsChA cAnsChA kAnsChA
  have bAnsChA := FAnsChA.binds (ps := ["instance", "call"]) fun _ _ _ _ _ _ us hl => match us, hl with | [_, _], _ => rfl
  have FAnsChC := fun_mk (st := sAnsChC) lAnsChC cAnsChC kAnsChC
  have bAnsChC := FAnsChC.binds (ps := ["instance", "call"]) fun _ _ _ _ _ _ us hl => match us, hl with | [_, _], _ => rfl
  have FAnsNb := fun_mk (st := sAnsNb) lAnsNb cAnsNb kAnsNb
  have bAnsNb := FAnsNb.binds (ps := ["instance", "call"]) fun _ _ _ _ _ _ us hl => match us, hl with | [_, _], _ => rfl
  have FAnsWo := fun_mk (st := sAnsWo) lAnsWo cAnsWo kAnsWo
  have bAnsWo := FAnsWo.binds (ps := ["instance", "call"]) fun _ _ _ _ _ _ us hl => match us, hl with | [_, _], _ => rfl
  have FAnsList := fun_mk (st := sAnsList) lAnsList cAnsList kAnsList
  have bAnsList := FAnsList.binds (ps := ["instance", "call"]) fun _ _ _ _ _ _ us hl => match us, hl with | [_, _], _ => rfl
  have FPerfQ := fun_mk (st := sPerfQ) lPerfQ cPerfQ kPerfQ
  have bPerfQ := FPerfQ.binds (ps := ["instance", "call"]) fun _ _ _ _ _ _ us hl => match us, hl with | [_, _], _ => rfl
  have FReadAll := fun_mk (st := sReadAll) lReadAll cReadAll kReadAll
  have bReadAll := FReadAll.binds (ps := ["calls"]) fun _ _ _ _ _ _ us hl => match us, hl with | [_], _ => rfl
  have FPerform := fun_mk (st := sPerform) lPerform cPerform kPerform
  have bPerform := FPerform.binds (ps := ["instance", "call"]) fun _ _ _ _ _ _ us hl => match us, hl with | [_, _], _ => rfl
  have FAnswers := fun_mk (st := sAnswers) lAnswers cAnswers kAnswers
  have bAnswers := FAnswers.binds (ps := ["calls"]) fun _ _ _ _ _ _ us hl => match us, hl with | [_], _ => rfl
  have FMatInit := fun_mk (st := sMatInit) lMatInit cMatInit kMatInit
  have bMatInit := FMatInit.binds (ps := ["self", "moulds", "machines"]) fun _ _ _ _ _ _ us hl => match us, hl with | [_, _, _], _ => rfl
  have FMatPlace := fun_mk (st := sPlace) lMatPlace cMatPlace kMatPlace
  have bMatPlace := FMatPlace.binds (ps := ["self", "mould", "tried"]) fun _ _ _ _ _ _ us hl => match us, hl with | [_, _, _], _ => rfl
  have FInstInit := fun_mk (st := sInstInit) lInstInit cInstInit kInstInit
  have bInstInit := FInstInit.binds (ps := ["self"]) fun _ _ _ _ _ _ us hl => match us, hl with | [_], _ => rfl
  have FCallInit := fun_mk (st := sCallInit) lCallInit cCallInit kCallInit
  have bCallInit := FCallInit.binds (ps := ["self", "number", "numbers", "rows"]) fun _ _ _ _ _ _ us hl => match us, hl with | [_, _, _, _], _ => rfl
  have FRdInit := fun_mk (st := sRdInit) lRdInit cRdInit kRdInit
  have bRdInit := FRdInit.binds (ps := ["self", "calls"]) fun _ _ _ _ _ _ us hl => match us, hl with | [_, _], _ => rfl
  have FRdMore := fun_mk (st := sRdMore) lRdMore cRdMore kRdMore
  have bRdMore := FRdMore.binds (ps := ["self"]) fun _ _ _ _ _ _ us hl => match us, hl with | [_], _ => rfl
  have FRdNum := fun_mk (st := sRdNum) lRdNum cRdNum kRdNum
  have bRdNum := FRdNum.binds (ps := ["self"]) fun _ _ _ _ _ _ us hl => match us, hl with | [_], _ => rfl
  have FRdNums := fun_mk (st := sRdNums) lRdNums cRdNums kRdNums
  have bRdNums := FRdNums.binds (ps := ["self", "how_many"]) fun _ _ _ _ _ _ us hl => match us, hl with | [_, _], _ => rfl
  have FRdRow := fun_mk (st := sRdRow) lRdRow cRdRow kRdRow
  have bRdRow := FRdRow.binds (ps := ["self"]) fun _ _ _ _ _ _ us hl => match us, hl with | [_], _ => rfl
  have FRdCall := fun_mk (st := sRdCall) lRdCall cRdCall kRdCall
  have bRdCall := FRdCall.binds (ps := ["self"]) fun _ _ _ _ _ _ us hl => match us, hl with | [_], _ => rfl
  have gIsIndex := PySem.W.mg_of X G aIsIndex
  have gIsRating := PySem.W.mg_of X G aIsRating
  have gAddR := PySem.W.mg_of X G aAddR
  have gRemR := PySem.W.mg_of X G aRemR
  have gSetR := PySem.W.mg_of X G aSetR
  have gAddMa := PySem.W.mg_of X G aAddMa
  have gAddMo := PySem.W.mg_of X G aAddMo
  have gRemMa := PySem.W.mg_of X G aRemMa
  have gRemMo := PySem.W.mg_of X G aRemMo
  have gSetMa := PySem.W.mg_of X G aSetMa
  have gSetMo := PySem.W.mg_of X G aSetMo
  have gPerfCh := PySem.W.mg_of X G aPerfCh
  have gFits := PySem.W.mg_of X G aFits
  have gFitM := PySem.W.mg_of X G aFitM
  have gCount := PySem.W.mg_of X G aCount
  have gRun := PySem.W.mg_of X G aRun
  have gSize := PySem.W.mg_of X G aSize
  have gValid := PySem.W.mg_of X G aValid
  have gLarge := PySem.W.mg_of X G aLarge
  have gNextE := PySem.W.mg_of X G aNextE
  have gBestA := PySem.W.mg_of X G aBestA
  have gSets := PySem.W.mg_of X G aSets
  have gFitsOne := PySem.W.mg_of X G aFitsOne
  have gNb := PySem.W.mg_of X G aNb
  have gDfc := PySem.W.mg_of X G aDfc
  have gDefSet := PySem.W.mg_of X G aDefSet
  have gToCov := PySem.W.mg_of X G aToCov
  have gIsCov := PySem.W.mg_of X G aIsCov
  have gCovSz := PySem.W.mg_of X G aCovSz
  have gMinCov := PySem.W.mg_of X G aMinCov
  have gTruth := PySem.W.mg_of X G aTruth
  have gIdxSet := PySem.W.mg_of X G aIdxSet
  have gAreE := PySem.W.mg_of X G aAreE
  have gCounted := PySem.W.mg_of X G aCounted
  have gAnsFits := PySem.W.mg_of X G aAnsFits
  have gAnsMax := PySem.W.mg_of X G aAnsMax
  have gAnsBest := PySem.W.mg_of X G aAnsBest
  have gAnsCov := PySem.W.mg_of X G aAnsCov
  have gAnsDef := PySem.W.mg_of X G aAnsDef
  have gAnsChA := PySem.W.mg_of X G aAnsChA
  have gAnsChC := PySem.W.mg_of X G aAnsChC
  have gAnsNb := PySem.W.mg_of X G aAnsNb
  have gAnsWo := PySem.W.mg_of X G aAnsWo
  have gAnsList := PySem.W.mg_of X G aAnsList
  have gPerfQ := PySem.W.mg_of X G aPerfQ
  have gReadAll := PySem.W.mg_of X G aReadAll
  have gPerform := PySem.W.mg_of X G aPerform
  have gAnswers := PySem.W.mg_of X G aAnswers
  refine ⟨PySem.W.fnOf "answers" "answers" (defArgs sAnswers) (defBody sAnswers) (defScope sAnswers) .none kVAnswers dcAnswers pmAnswers anAnswers cdAnswers ctAnswers, fun s us hu => match us, hu with | [_], _ => .of_eq rfl, fun base _ _ => ?_⟩
  have D1 := def_of (ok_isIndex (P := P) (w := w) (base := base) FIsIndex ml) gIsIndex kIsIndex bIsIndex
  have D2 := def_of (ok_isRating (P := P) (w := w) (base := base) FIsRating mLEAST mGREATEST) gIsRating kIsRating bIsRating
  have D3 := def_of (ok_addR FAddR ml mOUT_OF_RANGE mLIST_FULL mMOST_RATINGS D2) gAddR kAddR bAddR
  have D4 := def_of (ok_remR FRemR ml mNO_SUCH_INDEX D1) gRemR kRemR bRemR
  have D5 := def_of (ok_setR FSetR mNO_SUCH_INDEX mOUT_OF_RANGE D1 D2) gSetR kSetR bSetR
  have H1 : Held1 P w K mg base 3 fAddMa _ := ⟨_, _, ok_addMa FAddMa TCI D3, kAddMa, bAddMa⟩
  have H2 : Held1 P w K mg base 3 fAddMo _ := ⟨_, _, ok_addMo FAddMo TCI D3, kAddMo, bAddMo⟩
  have H3 : Held1 P w K mg base 3 fRemMa _ := ⟨_, _, ok_remMa FRemMa TCI D4, kRemMa, bRemMa⟩
  have H4 : Held1 P w K mg base 3 fRemMo _ := ⟨_, _, ok_remMo FRemMo TCI D4, kRemMo, bRemMo⟩
  have H5 : Held1 P w K mg base 3 fSetMa _ := ⟨_, _, ok_setMa FSetMa TCI D5, kSetMa, bSetMa⟩
  have H6 : Held1 P w K mg base 3 fSetMo _ := ⟨_, _, ok_setMo FSetMo TCI D5, kSetMo, bSetMo⟩
  have D6 := def_of (ok_perfCh (CI := CI) (CC := CC) FPerfCh TCI TCC (PySem.W.mg_of X G aD) ⟨esD, nD, lD, eD⟩ H1 H2 H3 H4 H5 H6) gPerfCh kPerfCh bPerfCh
  have DFits := def_of (ok_fits (P := P) (w := w) (base := base) FFits) gFits kFits bFits
  have DFitM := def_of (ok_fitM FFitM menumerate DFits) gFitM kFitM bFitM
  have GMI := ok_matInit FMatInit TCM DFitM
  have mPl : Meth K CM "place" fMatPlace := ⟨aMatPlace, iMatPlace, kMatPlace⟩
  have DCount := def_of (ok_count FCount TCM mrange ml MCM (PySem.W.mg_of X G aCM) GMI bMatInit FMatPlace bMatPlace mPl) gCount kCount bCount
  have DRun := def_of (ok_run (P := P) (w := w) (base := base) FRun mNOT_RUNNING) gRun kRun bRun
  have DSize := def_of (ok_size FSize ml DRun) gSize kSize bSize
  have DValid := def_of (ok_valid FValid ml mset menumerate mNOT_RUNNING DRun DFits) gValid kValid bValid
  have DLarge := def_of (ok_large FLarge ml menumerate DSize DCount) gLarge kLarge bLarge
  have DNextE := def_of (ok_nextE FNextE ml mNOT_RUNNING DFitM DLarge) gNextE kNextE bNextE
  have DBestA := def_of (ok_bestA FBestA ml DCount DNextE) gBestA kBestA bBestA
  have DSets := def_of (ok_sets (P := P) (w := w) (base := base) FSets mrange) gSets kSets bSets
  have DFitsOne := def_of (ok_fitsOne FFitsOne many DFits) gFitsOne kFitsOne bFitsOne
  have DNb := def_of (ok_nb FNb menumerate DFitsOne) gNb kNb bNb
  have DDfc := def_of (ok_dfc FDfc mmax ml DNb) gDfc kDfc bDfc
  have DToCov := def_of (ok_toCov FToCov menumerate DNb) gToCov kToCov bToCov
  have DIsCov := def_of (ok_isCov FIsCov mall DToCov) gIsCov kIsCov bIsCov
  have DCovSz := def_of (ok_covSz FCovSz ml DToCov) gCovSz kCovSz bCovSz
  have DDefSet := def_of (ok_defSet FDefSet ml DSets DDfc) gDefSet kDefSet bDefSet
  have DMinCov := def_of (ok_minCov FMinCov ml DSets DCovSz) gMinCov kMinCov bMinCov
  have DTruth := def_of (ok_truth (P := P) (w := w) (base := base) FTruth) gTruth kTruth bTruth
  have DIdxSet := def_of (ok_idxSet FIdxSet mall ml mset D1) gIdxSet kIdxSet bIdxSet
  have DAreE := def_of (ok_areE FAreE TCI mall ml mNOT_RUNNING D1) gAreE kAreE bAreE
  have DCounted := def_of (ok_counted (P := P) (w := w) (base := base) FCounted ml) gCounted kCounted bCounted
  have Q7 : Held1 P w K mg base 11 fAnsFits (spQ CI CC 7) := ⟨_, _, (ok_ansFits FAnsFits TCI TCC mNO_SUCH_INDEX D1 DFits DTruth).mono (by decide), kAnsFits, bAnsFits⟩
  have Q8 : Held1 P w K mg base 11 fAnsMax (spQ CI CC 8) := ⟨_, _, (ok_ansMax FAnsMax TCI DCount).mono (by decide), kAnsMax, bAnsMax⟩
  have Q9 : Held1 P w K mg base 11 fAnsBest (spQ CI CC 9) := ⟨_, _, (ok_ansBest FAnsBest TCI DBestA DSize).mono (by decide), kAnsBest, bAnsBest⟩
  have Q10 : Held1 P w K mg base 11 fAnsCov (spQ CI CC 10) := ⟨_, _, (ok_ansCov FAnsCov TCI ml DMinCov DToCov).mono (by decide), kAnsCov, bAnsCov⟩
  have Q11 : Held1 P w K mg base 11 fAnsDef (spQ CI CC 11) := ⟨_, _, (ok_ansDef FAnsDef TCI DDefSet DDfc).mono (by decide), kAnsDef, bAnsDef⟩
  have Q12 : Held1 P w K mg base 11 fAnsChA (spQ CI CC 12) := ⟨_, _, (ok_ansChA FAnsChA TCI TCC mOUT_OF_RANGE DAreE DValid DTruth DSize).mono (by decide), kAnsChA, bAnsChA⟩
  have Q13 : Held1 P w K mg base 11 fAnsChC (spQ CI CC 13) := ⟨_, _, (ok_ansChC FAnsChC TCI TCC ml mOUT_OF_RANGE DIdxSet DIsCov DTruth).mono (by decide), kAnsChC, bAnsChC⟩
  have Q14 : Held1 P w K mg base 11 fAnsNb (spQ CI CC 14) := ⟨_, _, (ok_ansNb FAnsNb TCI TCC ml mOUT_OF_RANGE DIdxSet DNb).mono (by decide), kAnsNb, bAnsNb⟩
  have Q15 : Held1 P w K mg base 11 fAnsWo (spQ CI CC 15) := ⟨_, _, (ok_ansWo FAnsWo TCI TCC mNO_SUCH_INDEX D1 DCount).mono (by decide), kAnsWo, bAnsWo⟩
  have Q16 : Held1 P w K mg base 11 fAnsList (spQ CI CC 16) := ⟨_, _, (ok_ansList FAnsList TCI DCounted).mono (by decide), kAnsList, bAnsList⟩
  have DQ := def_of ((ok_perfQ (CI := CI) (CC := CC) FPerfQ TCC (PySem.W.mg_of X G aQ) ⟨esQ, nQ, lQ, eQ⟩ Q7 Q8 Q9 Q10 Q11 Q12 Q13 Q14 Q15 Q16).mono (show 12 ≤ 24 by decide)) gPerfQ kPerfQ bPerfQ
  have mN : Meth K CR "take_number" fRdNum := ⟨aRdNum, iRdNum, kRdNum⟩
  have mNs : Meth K CR "take_numbers" fRdNums := ⟨aRdNums, iRdNums, kRdNums⟩
  have mR : Meth K CR "take_row" fRdRow := ⟨aRdRow, iRdRow, kRdRow⟩
  have mC : Meth K CR "take_call" fRdCall := ⟨aRdCall, iRdCall, kRdCall⟩
  have mM : Meth K CR "has_more" fRdMore := ⟨aRdMore, iRdMore, kRdMore⟩
  have G1 := ok_callInit (P := P) (w := w) (mg := mg) (base := base) FCallInit TCC
  have G2 := ok_rdInit (P := P) (w := w) (mg := mg) (base := base) FRdInit TCR
  have G3 := ok_more (P := P) (w := w) (mg := mg) (base := base) FRdMore TCR ml
  have G4 := ok_num (P := P) (w := w) (mg := mg) (base := base) FRdNum TCR
  have G5 := ok_nums (P := P) (w := w) (mg := mg) (base := base) FRdNums TCR
  have G6 := ok_row FRdRow TCR G4 bRdNum mN G5 bRdNums mNs
  have G7 := ok_call FRdCall TCR ml (PySem.W.mg_of X G aF) hF G4 bRdNum mN G5 bRdNums mNs G6 bRdRow mR MCC (PySem.W.mg_of X G aCC) G1 bCallInit
  have D7 := def_of (ok_readAll FReadAll TCR MCR (PySem.W.mg_of X G aCR) G2 bRdInit G3 bRdMore mM G7 bRdCall mC) gReadAll kReadAll bReadAll
  have D8 := def_of (ok_perform FPerform TCC mNO_INSTANCE mFIRST_QUERY D6 (k := 20) DQ) gPerform kPerform bPerform
  have G8 := ok_instInit (P := P) (w := w) (mg := mg) (base := base) FInstInit TCI
  exact ok_answers FAnswers TCI TCC ml mCREATE MCI (PySem.W.mg_of X G aCI) G8 bInstInit D7 (k := 20) D8
end Mp
/-! Hy -/
set_option Elab.async false
set_option maxRecDepth 100000
set_option maxHeartbeats 8000000
open PySem PySem.W PyProof.Rows
theorem PySem.Challenge.cw_mouldpress_s01_answers_holds : PySem.Challenge.rw_mouldpress_s01_answers.Holds := by
  w_on; k_headS; (case hw => exact ⟨[.list [.int 0]], by decide +kernel, by decide +kernel⟩)
  k_fillS
  refine L2.walk_specK (r := PySem.Challenge.rw_mouldpress_s01_answers) (k := 26) (CX := L2.CX0) (ps := ["calls"]) (sp := Mp.spAns) (by decide +kernel) rfl rfl ⟨rfl, by decide, by decide⟩ (fun w h Y => PySem.W.kIn_of Y) ?F ?S (fun _ _ _ _ z => z)
  case F =>
    intro w mg fa h Y KX G hmg
    refine' Mp.all_mk KX G hmg ?aIsIndex ?lIsIndex ?cIsIndex ?kIsIndex ?aIsRating ?lIsRating ?cIsRating ?kIsRating ?aAddR ?lAddR ?cAddR ?kAddR ?aRemR ?lRemR ?cRemR ?kRemR ?aSetR ?lSetR ?cSetR ?kSetR ?aAddMa ?lAddMa ?cAddMa ?kAddMa ?aAddMo ?lAddMo ?cAddMo ?kAddMo ?aRemMa ?lRemMa ?cRemMa ?kRemMa ?aRemMo ?lRemMo ?cRemMo ?kRemMo ?aSetMa ?lSetMa ?cSetMa ?kSetMa ?aSetMo ?lSetMo ?cSetMo ?kSetMo ?aPerfCh ?lPerfCh ?cPerfCh ?kPerfCh ?aFits ?lFits ?cFits ?kFits ?aFitM ?lFitM ?cFitM ?kFitM ?aCount ?lCount ?cCount ?kCount ?aRun ?lRun ?cRun ?kRun ?aSize ?lSize ?cSize ?kSize ?aValid ?lValid ?cValid ?kValid ?aLarge ?lLarge ?cLarge ?kLarge ?aNextE ?lNextE ?cNextE ?kNextE ?aBestA ?lBestA ?cBestA ?kBestA ?aSets ?lSets ?cSets ?kSets ?aFitsOne ?lFitsOne ?cFitsOne ?kFitsOne ?aNb ?lNb ?cNb ?kNb ?aDfc ?lDfc ?cDfc ?kDfc ?aDefSet ?lDefSet ?cDefSet ?kDefSet ?aToCov ?lToCov ?cToCov ?kToCov ?aIsCov ?lIsCov ?cIsCov ?kIsCov ?aCovSz ?lCovSz ?cCovSz ?kCovSz ?aMinCov ?lMinCov ?cMinCov ?kMinCov ?aTruth ?lTruth ?cTruth ?kTruth ?aIdxSet ?lIdxSet ?cIdxSet ?kIdxSet ?aAreE ?lAreE ?cAreE ?kAreE ?aCounted ?lCounted ?cCounted ?kCounted ?aAnsFits ?lAnsFits ?cAnsFits ?kAnsFits ?aAnsMax ?lAnsMax ?cAnsMax ?kAnsMax ?aAnsBest ?lAnsBest ?cAnsBest ?kAnsBest ?aAnsCov ?lAnsCov ?cAnsCov ?kAnsCov ?aAnsDef ?lAnsDef ?cAnsDef ?kAnsDef ?aAnsChA ?lAnsChA ?cAnsChA ?kAnsChA ?aAnsChC ?lAnsChC ?cAnsChC ?kAnsChC ?aAnsNb ?lAnsNb ?cAnsNb ?kAnsNb ?aAnsWo ?lAnsWo ?cAnsWo ?kAnsWo ?aAnsList ?lAnsList ?cAnsList ?kAnsList ?aPerfQ ?lPerfQ ?cPerfQ ?kPerfQ ?aReadAll ?lReadAll ?cReadAll ?kReadAll ?aPerform ?lPerform ?cPerform ?kPerform ?aAnswers ?lAnswers ?cAnswers ?kAnswers ?aCM ?aMatInit ?iMatInit ?lMatInit ?cMatInit ?kMatInit ?aMatPlace ?iMatPlace ?lMatPlace ?cMatPlace ?kMatPlace ?pgCM ?hdCM ?poCM ?saCM ?mkCM ?kcCM ?nCMchoices ?nCMmould_on ?aCI ?aInstInit ?iInstInit ?lInstInit ?cInstInit ?kInstInit ?pgCI ?hdCI ?poCI ?saCI ?mkCI ?kcCI ?nCImachines ?nCImoulds ?aCC ?aCallInit ?iCallInit ?lCallInit ?cCallInit ?kCallInit ?pgCC ?hdCC ?poCC ?saCC ?mkCC ?kcCC ?nCCnumber ?nCCnumbers ?nCCrows ?aCR ?aRdInit ?iRdInit ?lRdInit ?cRdInit ?kRdInit ?aRdMore ?iRdMore ?lRdMore ?cRdMore ?kRdMore ?aRdNum ?iRdNum ?lRdNum ?cRdNum ?kRdNum ?aRdNums ?iRdNums ?lRdNums ?cRdNums ?kRdNums ?aRdRow ?iRdRow ?lRdRow ?cRdRow ?kRdRow ?aRdCall ?iRdCall ?lRdCall ?cRdCall ?kRdCall ?pgCR ?hdCR ?poCR ?saCR ?mkCR ?kcCR ?nCRcalls ?nCRposition ?vNO_SUCH_INDEX ?vNO_INSTANCE ?vOUT_OF_RANGE ?vLIST_FULL ?vLEAST ?vGREATEST ?vMOST_RATINGS ?vCREATE ?vFIRST_QUERY ?vNOT_RUNNING ?zlen ?zenumerate ?zrange ?zset ?zany ?zall ?zmax ?aD ?lD ?eD ?aQ ?lQ ?eQ ?aF ?lF ?lF0 ?lF1 ?lF2 ?lF3 ?lF4 ?lF5 ?lF6 ?lF7 ?lF8 ?lF9 ?lF10 ?lF11 ?lF12 ?lF13 ?lF14 ?lF15 ?lF16
    (case aIsIndex => k_is)
    (case lIsIndex => k_is)
    (case cIsIndex => k_is)
    (case kIsIndex => k_is)
    (case aIsRating => k_is)
    (case lIsRating => k_is)
    (case cIsRating => k_is)
    (case kIsRating => k_is)
    (case aAddR => k_is)
    (case lAddR => k_is)
    (case cAddR => k_is)
    (case kAddR => k_is)
    (case aRemR => k_is)
    (case lRemR => k_is)
    (case cRemR => k_is)
    (case kRemR => k_is)
    (case aSetR => k_is)
    (case lSetR => k_is)
    (case cSetR => k_is)
    (case kSetR => k_is)
    (case aAddMa => k_is)
    (case lAddMa => k_is)
    (case cAddMa => k_is)
    (case kAddMa => k_is)
    (case aAddMo => k_is)
    (case lAddMo => k_is)
    (case cAddMo => k_is)
    (case kAddMo => k_is)
    (case aRemMa => k_is)
    (case lRemMa => k_is)
    (case cRemMa => k_is)
    (case kRemMa => k_is)
    (case aRemMo => k_is)
    (case lRemMo => k_is)
    (case cRemMo => k_is)
    (case kRemMo => k_is)
    (case aSetMa => k_is)
    (case lSetMa => k_is)
    (case cSetMa => k_is)
    (case kSetMa => k_is)
    (case aSetMo => k_is)
    (case lSetMo => k_is)
    (case cSetMo => k_is)
    (case kSetMo => k_is)
    (case aPerfCh => k_is)
    (case lPerfCh => k_is)
    (case cPerfCh => k_is)
    (case kPerfCh => k_is)
    (case aFits => k_is)
    (case lFits => k_is)
    (case cFits => k_is)
    (case kFits => k_is)
    (case aFitM => k_is)
    (case lFitM => k_is)
    (case cFitM => k_is)
    (case kFitM => k_is)
    (case aCount => k_is)
    (case lCount => k_is)
    (case cCount => k_is)
    (case kCount => k_is)
    (case aRun => k_is)
    (case lRun => k_is)
    (case cRun => k_is)
    (case kRun => k_is)
    (case aSize => k_is)
    (case lSize => k_is)
    (case cSize => k_is)
    (case kSize => k_is)
    (case aValid => k_is)
    (case lValid => k_is)
    (case cValid => k_is)
    (case kValid => k_is)
    (case aLarge => k_is)
    (case lLarge => k_is)
    (case cLarge => k_is)
    (case kLarge => k_is)
    (case aNextE => k_is)
    (case lNextE => k_is)
    (case cNextE => k_is)
    (case kNextE => k_is)
    (case aBestA => k_is)
    (case lBestA => k_is)
    (case cBestA => k_is)
    (case kBestA => k_is)
    (case aSets => k_is)
    (case lSets => k_is)
    (case cSets => k_is)
    (case kSets => k_is)
    (case aFitsOne => k_is)
    (case lFitsOne => k_is)
    (case cFitsOne => k_is)
    (case kFitsOne => k_is)
    (case aNb => k_is)
    (case lNb => k_is)
    (case cNb => k_is)
    (case kNb => k_is)
    (case aDfc => k_is)
    (case lDfc => k_is)
    (case cDfc => k_is)
    (case kDfc => k_is)
    (case aDefSet => k_is)
    (case lDefSet => k_is)
    (case cDefSet => k_is)
    (case kDefSet => k_is)
    (case aToCov => k_is)
    (case lToCov => k_is)
    (case cToCov => k_is)
    (case kToCov => k_is)
    (case aIsCov => k_is)
    (case lIsCov => k_is)
    (case cIsCov => k_is)
    (case kIsCov => k_is)
    (case aCovSz => k_is)
    (case lCovSz => k_is)
    (case cCovSz => k_is)
    (case kCovSz => k_is)
    (case aMinCov => k_is)
    (case lMinCov => k_is)
    (case cMinCov => k_is)
    (case kMinCov => k_is)
    (case aTruth => k_is)
    (case lTruth => k_is)
    (case cTruth => k_is)
    (case kTruth => k_is)
    (case aIdxSet => k_is)
    (case lIdxSet => k_is)
    (case cIdxSet => k_is)
    (case kIdxSet => k_is)
    (case aAreE => k_is)
    (case lAreE => k_is)
    (case cAreE => k_is)
    (case kAreE => k_is)
    (case aCounted => k_is)
    (case lCounted => k_is)
    (case cCounted => k_is)
    (case kCounted => k_is)
    (case aAnsFits => k_is)
    (case lAnsFits => k_is)
    (case cAnsFits => k_is)
    (case kAnsFits => k_is)
    (case aAnsMax => k_is)
    (case lAnsMax => k_is)
    (case cAnsMax => k_is)
    (case kAnsMax => k_is)
    (case aAnsBest => k_is)
    (case lAnsBest => k_is)
    (case cAnsBest => k_is)
    (case kAnsBest => k_is)
    (case aAnsCov => k_is)
    (case lAnsCov => k_is)
    (case cAnsCov => k_is)
    (case kAnsCov => k_is)
    (case aAnsDef => k_is)
    (case lAnsDef => k_is)
    (case cAnsDef => k_is)
    (case kAnsDef => k_is)
    (case aAnsChA => k_is)
    (case lAnsChA => k_is)
    (case cAnsChA => k_is)
    (case kAnsChA => k_is)
    (case aAnsChC => k_is)
    (case lAnsChC => k_is)
    (case cAnsChC => k_is)
    (case kAnsChC => k_is)
    (case aAnsNb => k_is)
    (case lAnsNb => k_is)
    (case cAnsNb => k_is)
    (case kAnsNb => k_is)
    (case aAnsWo => k_is)
    (case lAnsWo => k_is)
    (case cAnsWo => k_is)
    (case kAnsWo => k_is)
    (case aAnsList => k_is)
    (case lAnsList => k_is)
    (case cAnsList => k_is)
    (case kAnsList => k_is)
    (case aPerfQ => k_is)
    (case lPerfQ => k_is)
    (case cPerfQ => k_is)
    (case kPerfQ => k_is)
    (case aReadAll => k_is)
    (case lReadAll => k_is)
    (case cReadAll => k_is)
    (case kReadAll => k_is)
    (case aPerform => k_is)
    (case lPerform => k_is)
    (case cPerform => k_is)
    (case kPerform => k_is)
    (case aAnswers => k_is)
    (case lAnswers => k_is)
    (case cAnswers => k_is)
    (case kAnswers => k_is)
    (case aCM => k_is)
    (case aMatInit => k_is)
    (case iMatInit => k_is)
    (case lMatInit => k_is)
    (case cMatInit => k_is)
    (case kMatInit => k_is)
    (case aMatPlace => k_is)
    (case iMatPlace => k_is)
    (case lMatPlace => k_is)
    (case cMatPlace => k_is)
    (case kMatPlace => k_is)
    (case pgCM => k_is)
    (case hdCM => k_is)
    (case poCM => k_is)
    (case saCM => k_is)
    (case mkCM => k_is)
    (case kcCM => k_is)
    (case nCMchoices => k_is)
    (case nCMmould_on => k_is)
    (case aCI => k_is)
    (case aInstInit => k_is)
    (case iInstInit => k_is)
    (case lInstInit => k_is)
    (case cInstInit => k_is)
    (case kInstInit => k_is)
    (case pgCI => k_is)
    (case hdCI => k_is)
    (case poCI => k_is)
    (case saCI => k_is)
    (case mkCI => k_is)
    (case kcCI => k_is)
    (case nCImachines => k_is)
    (case nCImoulds => k_is)
    (case aCC => k_is)
    (case aCallInit => k_is)
    (case iCallInit => k_is)
    (case lCallInit => k_is)
    (case cCallInit => k_is)
    (case kCallInit => k_is)
    (case pgCC => k_is)
    (case hdCC => k_is)
    (case poCC => k_is)
    (case saCC => k_is)
    (case mkCC => k_is)
    (case kcCC => k_is)
    (case nCCnumber => k_is)
    (case nCCnumbers => k_is)
    (case nCCrows => k_is)
    (case aCR => k_is)
    (case aRdInit => k_is)
    (case iRdInit => k_is)
    (case lRdInit => k_is)
    (case cRdInit => k_is)
    (case kRdInit => k_is)
    (case aRdMore => k_is)
    (case iRdMore => k_is)
    (case lRdMore => k_is)
    (case cRdMore => k_is)
    (case kRdMore => k_is)
    (case aRdNum => k_is)
    (case iRdNum => k_is)
    (case lRdNum => k_is)
    (case cRdNum => k_is)
    (case kRdNum => k_is)
    (case aRdNums => k_is)
    (case iRdNums => k_is)
    (case lRdNums => k_is)
    (case cRdNums => k_is)
    (case kRdNums => k_is)
    (case aRdRow => k_is)
    (case iRdRow => k_is)
    (case lRdRow => k_is)
    (case cRdRow => k_is)
    (case kRdRow => k_is)
    (case aRdCall => k_is)
    (case iRdCall => k_is)
    (case lRdCall => k_is)
    (case cRdCall => k_is)
    (case kRdCall => k_is)
    (case pgCR => k_is)
    (case hdCR => k_is)
    (case poCR => k_is)
    (case saCR => k_is)
    (case mkCR => k_is)
    (case kcCR => k_is)
    (case nCRcalls => k_is)
    (case nCRposition => k_is)
    (case vNO_SUCH_INDEX => k_is)
    (case vNO_INSTANCE => k_is)
    (case vOUT_OF_RANGE => k_is)
    (case vLIST_FULL => k_is)
    (case vLEAST => k_is)
    (case vGREATEST => k_is)
    (case vMOST_RATINGS => k_is)
    (case vCREATE => k_is)
    (case vFIRST_QUERY => k_is)
    (case vNOT_RUNNING => k_is)
    (case zlen => k_is)
    (case zenumerate => k_is)
    (case zrange => k_is)
    (case zset => k_is)
    (case zany => k_is)
    (case zall => k_is)
    (case zmax => k_is)
    (case aD => k_is)
    (case lD => k_is)
    (case eD => exact .cons ⟨⟨_, rfl⟩, rfl, rfl⟩ (.cons ⟨⟨_, rfl⟩, rfl, rfl⟩ (.cons ⟨⟨_, rfl⟩, rfl, rfl⟩ (.cons ⟨⟨_, rfl⟩, rfl, rfl⟩ (.cons ⟨⟨_, rfl⟩, rfl, rfl⟩ (.cons ⟨⟨_, rfl⟩, rfl, rfl⟩ .nil))))))
    (case aQ => k_is)
    (case lQ => k_is)
    (case eQ => exact (.cons ⟨⟨_, rfl⟩, rfl, rfl⟩ (.cons ⟨⟨_, rfl⟩, rfl, rfl⟩ (.cons ⟨⟨_, rfl⟩, rfl, rfl⟩ (.cons ⟨⟨_, rfl⟩, rfl, rfl⟩ (.cons ⟨⟨_, rfl⟩, rfl, rfl⟩ (.cons ⟨⟨_, rfl⟩, rfl, rfl⟩ (.cons ⟨⟨_, rfl⟩, rfl, rfl⟩ (.cons ⟨⟨_, rfl⟩, rfl, rfl⟩ (.cons ⟨⟨_, rfl⟩, rfl, rfl⟩ (.cons ⟨⟨_, rfl⟩, rfl, rfl⟩ .nil)))))))))))
    (case aF => k_is)
    (case lF => k_is)
    (case lF0 => k_is)
    (case lF1 => k_is)
    (case lF2 => k_is)
    (case lF3 => k_is)
    (case lF4 => k_is)
    (case lF5 => k_is)
    (case lF6 => k_is)
    (case lF7 => k_is)
    (case lF8 => k_is)
    (case lF9 => k_is)
    (case lF10 => k_is)
    (case lF11 => k_is)
    (case lF12 => k_is)
    (case lF13 => k_is)
    (case lF14 => k_is)
    (case lF15 => k_is)
    (case lF16 => k_is)
  case S =>
    intro K H xs a hO hwi hask hx
    cases hx with
    | cons h1 h2 =>
      cases h2
      cases h1 with
      | lst hs ha =>
        have e := L2.ints_dw a.1 _ ha
        subst e
        have q : ((Codec.inLen 0 8580 a.1 && a.1.all (Codec.inInt (-2147483648) 2147483647)) && true) = true := hwi
        rw [Bool.and_eq_true, Bool.and_eq_true] at q
        exact ⟨_, a.1, rfl, hs, (Codec.inNat_iff.mp q.1.1).2, hask, fun H' p hp => .lst (L2.SqL.of hp) (L2.dw_ints _)⟩
