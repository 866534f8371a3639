import PyProof.Rows.All
import Wide.All
import OpenK.AllK
import Wide.FinOn
import Open.SpecLaws
import KE.OsGo
import KE.DatumOrd
import HandS.ForSpec
import HandS.Comp
import HandS.Iter
import HandS.Zip
import HandS.SetFor
import HandS.SortKw
import PySem.Challenge.RW_stillfirst_s01_answers
set_option Elab.async false
set_option linter.all false
set_option maxRecDepth 100000
set_option maxHeartbeats 2000000
namespace SF
open Sj10
/-! ### lists -/
theorem take_more {α : Type} : ∀ {l : List α} {i : Nat} {x : α}, l[i]? = some x → l.take (i + 1) = l.take i ++ [x]
  | [], i, x, h => by simp at h
  | a :: l, 0, x, h => by
    have e : a = x := Option.some.inj h
    subst e
    rfl
  | a :: l, i + 1, x, h => by
    have ih := take_more (l := l) (i := i) (x := x) h
    show a :: l.take (i + 1) = a :: l.take i ++ [x]
    rw [ih]
    rfl
/-! ### what one has in the end -/
def bump (w : List Nat) (k : Nat) : List Nat := w.set k (w.getD k 0 + 1)
theorem bump_length (w : List Nat) (k : Nat) : (bump w k).length = w.length := by
  unfold bump
  rw [List.length_set]
theorem bump_get (w : List Nat) (k j : Nat) (hk : k < w.length) : (bump w k).getD j 0 = w.getD j 0 + (if k = j then 1 else 0) := by
  unfold bump
  by_cases h : k = j
  · subst h
    simp [List.getD, List.getElem?_set_self hk]
  · simp [List.getD, List.getElem?_set_ne h, h]
def endsZ (ws : List Nat) (z : List ((Nat × Nat) × Nat)) : List Nat := z.foldl (fun e x => bump e (winner x.1 x.2)) ws
theorem endsZ_length : ∀ (z : List ((Nat × Nat) × Nat)) (ws : List Nat), (endsZ ws z).length = ws.length
  | [], _ => rfl
  | x :: z, ws => by
    show (endsZ (bump ws (winner x.1 x.2)) z).length = _
    rw [endsZ_length z, bump_length]
theorem winner_lt {b : Nat × Nat} {o n : Nat} (h : b.1 < n ∧ b.2 < n) : winner b o < n := by
  unfold winner
  split
  · exact h.1
  · exact h.2
theorem endsZ_get : ∀ (z : List ((Nat × Nat) × Nat)) (ws : List Nat) (j : Nat), (∀ x ∈ z, x.1.1 < ws.length ∧ x.1.2 < ws.length) →
    (endsZ ws z).getD j 0 = ws.getD j 0 + (z.filter fun x => winner x.1 x.2 == j).length
  | [], _, _, _ => rfl
  | x :: z, ws, j, h => by
    show (endsZ (bump ws (winner x.1 x.2)) z).getD j 0 = _
    have hx := winner_lt (o := x.2) (h x List.mem_cons_self)
    rw [endsZ_get z _ j (fun y hy => by rw [bump_length]; exact h y (List.mem_cons_of_mem _ hy)), bump_get _ _ _ hx, List.filter_cons]
    by_cases e : winner x.1 x.2 = j
    · rw [if_pos e, if_pos (by rw [e]; exact beq_self_eq_true j), List.length_cons]
      omega
    · rw [if_neg e, if_neg (by simpa using e)]
      omega
/-- a standing as it can be -/
structure Good (s : Standing) : Prop where
  c6 : s.wins.length ≤ 6
  b9 : s.bouts.length ≤ 9
  w15 : ∀ w ∈ s.wins, w ≤ 15
  pr : ∀ b ∈ s.bouts, b.1 < s.wins.length ∧ b.2 < s.wins.length ∧ b.1 ≠ b.2
def endsL (s : Standing) (o : List Nat) : List Nat := endsZ s.wins (s.bouts.zip o)
theorem zip_pr {s : Standing} (g : Good s) {o : List Nat} : ∀ x ∈ s.bouts.zip o, x.1.1 < s.wins.length ∧ x.1.2 < s.wins.length := fun x hx => by
  have := g.pr x.1 (List.of_mem_zip (a := x.1) (b := x.2) hx).1
  exact ⟨this.1, this.2.1⟩
theorem endsL_length (s : Standing) (o : List Nat) : (endsL s o).length = s.count := endsZ_length _ _
theorem endsL_getD {s : Standing} (g : Good s) (o : List Nat) (j : Nat) : (endsL s o).getD j 0 = s.ends o j := endsZ_get _ _ j (zip_pr g)
theorem endsL_get {s : Standing} (g : Good s) (o : List Nat) (j : Nat) (hj : j < s.count) : (endsL s o)[j]? = some (s.ends o j) := by
  have hl : j < (endsL s o).length := by rw [endsL_length]; exact hj
  rw [← endsL_getD g, List.getD, List.getElem?_eq_getElem hl]
  rfl
theorem endsL_eq {s : Standing} (g : Good s) (o : List Nat) : endsL s o = (List.range s.count).map fun i => s.ends o i := by
  apply List.ext_getElem?
  intro j
  by_cases hj : j < s.count
  · rw [endsL_get g o j hj, List.getElem?_map, List.getElem?_range hj]
    rfl
  · rw [List.getElem?_eq_none (by rw [endsL_length]; omega), List.getElem?_eq_none (by rw [List.length_map, List.length_range]; omega)]
/-! ### first, alone -/
theorem first_iff {s : Standing} {o : List Nat} {i : Nat} : s.first o i = true ↔ ∀ k, k < s.count → s.ends o k ≤ s.ends o i := by
  unfold Standing.first
  rw [List.all_eq_true]
  constructor
  · intro h k hk
    exact of_decide_eq_true (h k (List.mem_range.mpr hk))
  · intro h k hk
    exact decide_eq_true (h k (List.mem_range.mp hk))
theorem alone_iff {s : Standing} {o : List Nat} {i : Nat} : s.alone o i = true ↔ ∀ k, k < s.count → k = i ∨ s.ends o k < s.ends o i := by
  unfold Standing.alone
  rw [List.all_eq_true]
  constructor
  · intro h k hk
    have := h k (List.mem_range.mpr hk)
    simpa using this
  · intro h k hk
    have := h k (List.mem_range.mp hk)
    simpa using this
/-- the most -/
structure Top (l : List Nat) (m : Nat) : Prop where
  mem : m ∈ l
  le : ∀ x ∈ l, x ≤ m
theorem first_top {s : Standing} (g : Good s) {o : List Nat} {i m : Nat} (hi : i < s.count) (t : Top (endsL s o) m) : s.first o i = decide (s.ends o i = m) := by
  rw [Bool.eq_iff_iff, first_iff, decide_eq_true_iff]
  have e := endsL_eq g o
  constructor
  · intro h
    have hm := t.mem
    rw [e] at hm
    obtain ⟨k, hk, rfl⟩ := List.mem_map.mp hm
    have h1 := h k (List.mem_range.mp hk)
    have h2 := t.le (s.ends o i) (by rw [e]; exact List.mem_map.mpr ⟨i, List.mem_range.mpr hi, rfl⟩)
    omega
  · rintro rfl k hk
    exact t.le _ (by rw [e]; exact List.mem_map.mpr ⟨k, List.mem_range.mpr hk, rfl⟩)
def firsts (s : Standing) (o : List Nat) : Nat := ((List.range s.count).filter fun i => s.first o i).length
theorem count_map {f : Nat → Nat} {m : Nat} : ∀ l : List Nat, (l.map f).count m = (l.filter fun i => decide (f i = m)).length
  | [] => rfl
  | x :: l => by
    rw [List.map_cons, List.count_cons, count_map l, List.filter_cons]
    by_cases h : f x = m
    · rw [if_pos (by rw [h]; exact beq_self_eq_true m), if_pos (decide_eq_true h), List.length_cons]
    · rw [if_neg (by simpa using h), if_neg (by simpa using h)]
      rfl
theorem count_top {s : Standing} (g : Good s) {o : List Nat} {m : Nat} (t : Top (endsL s o) m) : (endsL s o).count m = firsts s o := by
  rw [endsL_eq g, count_map]
  unfold firsts
  congr 1
  apply List.filter_congr
  intro i hi
  rw [first_top g (List.mem_range.mp hi) t]
theorem firsts_nil {s : Standing} {o : List Nat} (h : s.count = 0) : firsts s o = 0 := by
  unfold firsts
  rw [h]
  rfl
theorem filter_one {p : Nat → Bool} {n i : Nat} (hi : i < n) (hp : p i = true) : ((List.range n).filter p).length = 1 ↔ ∀ k, k < n → p k = true → k = i := by
  have hm : i ∈ (List.range n).filter p := List.mem_filter.mpr ⟨List.mem_range.mpr hi, hp⟩
  constructor
  · intro h k hk hpk
    have hk' : k ∈ (List.range n).filter p := List.mem_filter.mpr ⟨List.mem_range.mpr hk, hpk⟩
    obtain ⟨a, ha⟩ := List.length_eq_one_iff.mp h
    rw [ha] at hm hk'
    rw [List.mem_singleton.mp hm, List.mem_singleton.mp hk']
  · intro h
    have nd : ((List.range n).filter p).Nodup := List.Pairwise.filter _ List.nodup_range
    cases e : (List.range n).filter p with
    | nil => rw [e] at hm; cases hm
    | cons a r =>
      cases r with
      | nil => rfl
      | cons b r =>
        rw [e] at nd
        have ma : a ∈ (List.range n).filter p := by rw [e]; exact List.mem_cons_self
        have mb : b ∈ (List.range n).filter p := by rw [e]; exact List.mem_cons_of_mem _ List.mem_cons_self
        have ea := h a (List.mem_range.mp (List.mem_filter.mp ma).1) (List.mem_filter.mp ma).2
        have eb := h b (List.mem_range.mp (List.mem_filter.mp mb).1) (List.mem_filter.mp mb).2
        rw [List.nodup_cons] at nd
        exact absurd (show a ∈ b :: r by rw [ea, ← eb]; exact List.mem_cons_self) nd.1
theorem alone_first {s : Standing} {o : List Nat} {i : Nat} (h : s.alone o i = true) : s.first o i = true := by
  rw [first_iff]
  intro k hk
  rcases alone_iff.mp h k hk with e | e
  · rw [e]; exact Nat.le_refl _
  · exact Nat.le_of_lt e
theorem alone_one {s : Standing} {o : List Nat} {i : Nat} (hi : i < s.count) (h : s.first o i = true) : (s.alone o i = true) ↔ firsts s o = 1 := by
  unfold firsts
  rw [filter_one hi h, alone_iff]
  have hf := first_iff.mp h
  constructor
  · intro a k hk hp
    rcases a k hk with e | e
    · exact e
    · have := first_iff.mp hp i hi
      omega
  · intro a k hk
    by_cases e : s.ends o k < s.ends o i
    · exact .inr e
    · refine .inl (a k hk (first_iff.mpr fun j hj => ?_))
      have := hf j hj
      omega
/-! ### all outcomes -/
theorem rows_length : ∀ n, (rows n).length = 2 ^ n
  | 0 => rfl
  | n + 1 => by
    show (((rows n).map fun l => 0 :: l) ++ (rows n).map fun l => 1 :: l).length = _
    rw [List.length_append, List.length_map, List.length_map, rows_length n, Nat.pow_succ]
    omega
theorem rows_mem : ∀ {n : Nat} {o : List Nat}, o ∈ rows n → o.length = n ∧ ∀ x ∈ o, x < 2
  | 0, o, h => by
    have e : o = [] := List.mem_singleton.mp h
    subst e
    exact ⟨rfl, fun x hx => nomatch hx⟩
  | n + 1, o, h => by
    have h : o ∈ ((rows n).map fun l => 0 :: l) ++ (rows n).map fun l => 1 :: l := h
    rcases List.mem_append.mp h with h | h
    all_goals
      obtain ⟨l, hl, rfl⟩ := List.mem_map.mp h
      obtain ⟨h1, h2⟩ := rows_mem hl
      refine ⟨by rw [List.length_cons, h1], fun x hx => ?_⟩
      rcases List.mem_cons.mp hx with e | e
      · omega
      · exact h2 x e
theorem mem_rows0 {n : Nat} {o : List Nat} (h : o ∈ rows n) : 0 :: o ∈ rows (n + 1) := List.mem_append.mpr (.inl (List.mem_map.mpr ⟨o, h, rfl⟩))
theorem mem_rows1 {n : Nat} {o : List Nat} (h : o ∈ rows n) : 1 :: o ∈ rows (n + 1) := List.mem_append.mpr (.inr (List.mem_map.mpr ⟨o, h, rfl⟩))
/-! ### odds -/
theorem filter_len_snoc {α : Type} {p : α → Bool} (l : List α) (x : α) : ((l ++ [x]).filter p).length = (l.filter p).length + (if p x = true then 1 else 0) := by
  rw [List.filter_append, List.length_append, List.filter_cons]
  by_cases h : p x = true
  · rw [if_pos h, if_pos h]; rfl
  · rw [if_neg h, if_neg h]; rfl
/-! ### needs -/
/-- the most of one's own that one wins in vain, so far -/
def vain (s : Standing) (i : Nat) (m : Option Nat) (o : List Nat) : Option Nat :=
  if s.first o i = true then m else match m with
    | none => some (s.own o i)
    | some v => if v < s.own o i then some (s.own o i) else some v
def vains (s : Standing) (i : Nat) (l : List (List Nat)) : Option Nat := l.foldl (vain s i) none
theorem vains_snoc (s : Standing) (i : Nat) (l : List (List Nat)) (o : List Nat) : vains s i (l ++ [o]) = vain s i (vains s i l) o := by
  unfold vains
  rw [List.foldl_append]
  rfl
theorem vains_spec (s : Standing) (i : Nat) : ∀ (l : List (List Nat)) (m0 : Option Nat),
    match l.foldl (vain s i) m0 with
    | none => m0 = none ∧ ∀ o ∈ l, s.first o i = true
    | some v => (m0 = some v ∨ ∃ o ∈ l, s.first o i = false ∧ s.own o i = v) ∧ (∀ u, m0 = some u → u ≤ v) ∧ ∀ o ∈ l, s.first o i = false → s.own o i ≤ v
  | [], none => ⟨rfl, fun o ho => nomatch ho⟩
  | [], some v => ⟨.inl rfl, fun u e => by cases e; exact Nat.le_refl _, fun o ho => nomatch ho⟩
  | o :: l, m0 => by
    have ih := vains_spec s i l (vain s i m0 o)
    show match l.foldl (vain s i) (vain s i m0 o) with
      | none => m0 = none ∧ ∀ x ∈ o :: l, s.first x i = true
      | some v => (m0 = some v ∨ ∃ x ∈ o :: l, s.first x i = false ∧ s.own x i = v) ∧ (∀ u, m0 = some u → u ≤ v) ∧ ∀ x ∈ o :: l, s.first x i = false → s.own x i ≤ v
    generalize l.foldl (vain s i) (vain s i m0 o) = r at ih ⊢
    have hv : (s.first o i = true ∧ vain s i m0 o = m0) ∨ (s.first o i = false ∧ ∃ v, vain s i m0 o = some v ∧ s.own o i ≤ v ∧ (∀ u, m0 = some u → u ≤ v) ∧ (m0 = some v ∨ s.own o i = v)) := by
      unfold vain
      by_cases h : s.first o i = true
      · rw [if_pos h]
        exact .inl ⟨h, rfl⟩
      · rw [if_neg h]
        refine .inr ⟨by simpa using h, ?_⟩
        cases m0 with
        | none => exact ⟨_, rfl, Nat.le_refl _, fun u e => (nomatch e), .inr rfl⟩
        | some v =>
          by_cases c : v < s.own o i
          · refine ⟨s.own o i, ?_, Nat.le_refl _, fun u e => ?_, .inr rfl⟩
            · show (if v < s.own o i then some (s.own o i) else some v) = _
              rw [if_pos c]
            · cases e; omega
          · refine ⟨v, ?_, by omega, fun u e => ?_, .inl rfl⟩
            · show (if v < s.own o i then some (s.own o i) else some v) = _
              rw [if_neg c]
            · cases e; exact Nat.le_refl _
    cases r with
    | none =>
      obtain ⟨h1, h2⟩ := ih
      rcases hv with ⟨f, e⟩ | ⟨f, v, e, _⟩
      · rw [e] at h1
        refine ⟨h1, fun x hx => ?_⟩
        rcases List.mem_cons.mp hx with z | z
        · rw [z]; exact f
        · exact h2 x z
      · rw [e] at h1; cases h1
    | some v =>
      obtain ⟨h1, h2, h3⟩ := ih
      rcases hv with ⟨f, e⟩ | ⟨f, u, e, hu, hm, hor⟩
      · rw [e] at h1 h2
        refine ⟨?_, h2, fun x hx hf => ?_⟩
        · rcases h1 with z | ⟨x, hx, z⟩
          · exact .inl z
          · exact .inr ⟨x, List.mem_cons_of_mem _ hx, z⟩
        · rcases List.mem_cons.mp hx with z | z
          · rw [z, f] at hf; cases hf
          · exact h3 x z hf
      · rw [e] at h1 h2
        have hle := h2 u rfl
        refine ⟨?_, fun w ew => Nat.le_trans (hm w ew) hle, fun x hx hf => ?_⟩
        · rcases h1 with z | ⟨x, hx, z⟩
          · cases z
            rcases hor with z | z
            · exact .inl z
            · exact .inr ⟨o, List.mem_cons_self, f, z⟩
          · exact .inr ⟨x, List.mem_cons_of_mem _ hx, z⟩
        · rcases List.mem_cons.mp hx with z | z
          · rw [z]; omega
          · exact h3 x z hf
def needsV (s : Standing) (i : Nat) : Option Nat := match vains s i s.all_ with
  | none => some 0
  | some v => if v = s.left i then none else some (v + 1)
theorem zip_filter_le {p : (Nat × Nat) → Bool} {q : (Nat × Nat) × Nat → Bool} (h : ∀ x, q x = true → p x.1 = true) : ∀ (bs : List (Nat × Nat)) (o : List Nat), ((bs.zip o).filter q).length ≤ (bs.filter p).length
  | [], o => by simp
  | b :: bs, [] => by simp
  | b :: bs, x :: o => by
    have ih := zip_filter_le h bs o
    rw [List.zip_cons_cons, List.filter_cons, List.filter_cons]
    by_cases e : q (b, x) = true
    · rw [if_pos e, if_pos (h _ e), List.length_cons, List.length_cons]
      omega
    · rw [if_neg e]
      split
      · rw [List.length_cons]; omega
      · exact ih
theorem own_le (s : Standing) (o : List Nat) (i : Nat) : s.own o i ≤ s.left i := by
  unfold Standing.own Standing.left
  refine zip_filter_le (fun x hx => ?_) _ _
  have e : winner x.1 x.2 = i := by simpa using hx
  unfold winner at e
  split at e
  · rw [e]; simp
  · rw [e]; simp
theorem find_range {p : Nat → Bool} {n m : Nat} (hm : m < n) (hp : p m = true) (hl : ∀ k, k < m → p k = false) : (List.range n).find? p = some m := by
  rw [List.find?_range_eq_some]
  refine ⟨hp, List.mem_range.mpr hm, fun j hj => ?_⟩
  rw [hl j hj]
  rfl
theorem needs_eq (s : Standing) (i : Nat) : s.needs i = needsV s i := by
  have sp := vains_spec s i s.all_ none
  unfold needsV
  show ((List.range (s.left i + 1)).find? fun n => s.all_.all fun o => decide (s.own o i < n) || s.first o i) = _
  have ev : vains s i s.all_ = s.all_.foldl (vain s i) none := rfl
  rw [ev]
  generalize s.all_.foldl (vain s i) none = r at sp ⊢
  cases r with
  | none =>
    obtain ⟨_, h⟩ := sp
    refine find_range (Nat.succ_pos _) ?_ (fun k hk => absurd hk (Nat.not_lt_zero k))
    rw [List.all_eq_true]
    intro o ho
    rw [h o ho, Bool.or_true]
  | some v =>
    obtain ⟨h1, _, h3⟩ := sp
    obtain ⟨o, ho, hf, hv⟩ : ∃ o ∈ s.all_, s.first o i = false ∧ s.own o i = v := by
      rcases h1 with z | z
      · cases z
      · exact z
    have hle := own_le s o i
    have low : ∀ k, k ≤ v → (s.all_.all fun o => decide (s.own o i < k) || s.first o i) = false := fun k hk => by
      rw [List.all_eq_false]
      refine ⟨o, ho, ?_⟩
      rw [hf, Bool.or_false, decide_eq_true_iff]
      omega
    show _ = (if v = s.left i then none else some (v + 1))
    by_cases c : v = s.left i
    · rw [if_pos c, List.find?_eq_none]
      intro k hk
      rw [low k (by rw [List.mem_range] at hk; omega)]
      simp
    · rw [if_neg c]
      refine find_range (by omega) ?_ (fun k hk => low k (by omega))
      rw [List.all_eq_true]
      intro o' ho'
      by_cases f : s.first o' i = true
      · rw [f, Bool.or_true]
      · have := h3 o' ho' (by simpa using f)
        rw [Bool.or_eq_true, decide_eq_true_iff]
        exact .inl (by omega)
theorem ends_own (s : Standing) (o : List Nat) (i : Nat) : s.ends o i = s.wins.getD i 0 + s.own o i := rfl
end SF
namespace SF
open Sj10
/-! ### the sets of wrestlers, in order -/
def setsUp : Nat → List (List Nat)
  | 0 => [[]]
  | m + 1 => setsUp m ++ (setsUp m).map fun l => l ++ [m]
theorem setsUp_length : ∀ m, (setsUp m).length = 2 ^ m
  | 0 => rfl
  | m + 1 => by
    show (setsUp m ++ (setsUp m).map fun l => l ++ [m]).length = _
    rw [List.length_append, List.length_map, setsUp_length m, Nat.pow_succ]
    omega
def mem (n t : Nat) : List Nat := (List.range n).filter fun k => t.testBit k
theorem mem_succ (m t : Nat) : mem (m + 1) t = mem m t ++ (if t.testBit m = true then [m] else []) := by
  unfold mem
  rw [List.range_succ, List.filter_append, List.filter_cons, List.filter_nil]
theorem setsUp_get : ∀ (m t : Nat), t < 2 ^ m → (setsUp m)[t]? = some (mem m t)
  | 0, t, h => by
    have e : t = 0 := by
      have : (2 : Nat) ^ 0 = 1 := rfl
      omega
    subst e
    rfl
  | m + 1, t, h => by
    show (setsUp m ++ (setsUp m).map fun l => l ++ [m])[t]? = _
    have hl := setsUp_length m
    rw [mem_succ]
    by_cases c : t < 2 ^ m
    · rw [List.getElem?_append_left (by rw [hl]; exact c), setsUp_get m t c, Nat.testBit_lt_two_pow c, if_neg Bool.false_ne_true, List.append_nil]
    · have h2 : t < 2 ^ m + 2 ^ m := by rw [Nat.pow_succ] at h; omega
      obtain ⟨u, rfl⟩ : ∃ u, t = 2 ^ m + u := ⟨t - 2 ^ m, by omega⟩
      have hu : u < 2 ^ m := by omega
      rw [List.getElem?_append_right (by rw [hl]; omega), hl, show 2 ^ m + u - 2 ^ m = u by omega, List.getElem?_map, setsUp_get m u hu, Nat.testBit_two_pow_add_eq, Nat.testBit_lt_two_pow hu, if_pos (by rfl)]
      show some (mem m u ++ [m]) = _
      congr 2
      unfold mem
      apply List.filter_congr
      intro k hk
      rw [Nat.testBit_two_pow_add_gt (List.mem_range.mp hk)]
theorem mem_mem {n t k : Nat} : k ∈ mem n t ↔ k < n ∧ t.testBit k = true := by
  unfold mem
  rw [List.mem_filter, List.mem_range]
theorem members_eq (s : Standing) (t : Nat) : s.members t = mem s.count t := rfl
/-! ### who shares out what -/
def sharesL (s : Standing) (l : List Nat) : Nat := (l.map fun k => s.wins.getD k 0).sum + (s.bouts.filter fun b => decide (b.1 ∈ l) && decide (b.2 ∈ l)).length
theorem shares_eq {s : Standing} (g : Good s) (t : Nat) : sharesL s (mem s.count t) = s.share t := by
  unfold sharesL Standing.share
  rw [members_eq]
  congr 2
  apply List.filter_congr
  intro b hb
  have h := g.pr b hb
  have e1 : decide (b.1 ∈ mem s.count t) = t.testBit b.1 := by
    rw [Bool.eq_iff_iff, decide_eq_true_iff, mem_mem]
    exact ⟨fun z => z.2, fun z => ⟨h.1, z⟩⟩
  have e2 : decide (b.2 ∈ mem s.count t) = t.testBit b.2 := by
    rw [Bool.eq_iff_iff, decide_eq_true_iff, mem_mem]
    exact ⟨fun z => z.2, fun z => ⟨h.2.1, z⟩⟩
  rw [e1, e2]
/-- whether the set of number t stands in i's way -/
def inWay (s : Standing) (i t : Nat) : Bool := !t.testBit i && decide ((s.members t).length * s.top i < s.share t)
theorem why_of {s : Standing} {i m : Nat} (hm : m < 2 ^ s.count) (hp : inWay s i m = true) (hl : ∀ t, t < 2 ^ s.count → inWay s i t = true → m ≤ t) : s.why i = some m := by
  refine find_range hm hp fun k hk => ?_
  by_cases e : inWay s i k = true
  · have := hl k (by omega) e
    omega
  · show inWay s i k = false
    simpa using e
/-! ### Hall: if no set stands in the way there is an outcome -/
def inside (bs : List (Nat × Nat)) (S : Nat → Bool) : Nat := (bs.filter fun b => S b.1 && S b.2).length
def won (bs : List (Nat × Nat)) (o : List Nat) (k : Nat) : Nat := ((bs.zip o).filter fun x => winner x.1 x.2 == k).length
def has (bs : List (Nat × Nat)) (k : Nat) : Nat := (bs.filter fun b => b.1 == k || b.2 == k).length
def b2n (b : Bool) : Nat := if b = true then 1 else 0
theorem inside_cons (b : Nat × Nat) (bs : List (Nat × Nat)) (S : Nat → Bool) : inside (b :: bs) S = inside bs S + b2n (S b.1 && S b.2) := by
  unfold inside b2n
  rw [List.filter_cons]
  split
  · rw [List.length_cons]
  · rfl
theorem won_cons (b : Nat × Nat) (bs : List (Nat × Nat)) (x : Nat) (o : List Nat) (k : Nat) : won (b :: bs) (x :: o) k = won bs o k + b2n (winner b x == k) := by
  unfold won b2n
  rw [List.zip_cons_cons, List.filter_cons]
  split
  · rw [List.length_cons]
  · rfl
theorem has_cons (b : Nat × Nat) (bs : List (Nat × Nat)) (k : Nat) : has (b :: bs) k = has bs k + b2n (b.1 == k || b.2 == k) := by
  unfold has b2n
  rw [List.filter_cons]
  split
  · rw [List.length_cons]
  · rfl
def caps (c : Nat → Int) (S : Nat → Bool) : Nat → Int
  | 0 => 0
  | k + 1 => caps c S k + (if S k = true then c k else 0)
theorem caps_less (c : Nat → Int) (S : Nat → Bool) (a : Nat) : ∀ n, caps (fun k => c k - (if k = a then 1 else 0)) S n = caps c S n - (if a < n ∧ S a = true then 1 else 0)
  | 0 => by
    rw [if_neg (by omega)]
    rfl
  | n + 1 => by
    show caps _ S n + (if S n = true then c n - (if n = a then 1 else 0) else 0) = (caps c S n + (if S n = true then c n else 0)) - _
    rw [caps_less c S a n]
    by_cases h1 : n = a
    · subst h1
      rw [if_neg (show ¬ (n < n ∧ S n = true) by omega)]
      by_cases h2 : S n = true
      · simp [h2]
        omega
      · simp [h2]
    · have e : (a < n + 1 ∧ S a = true) ↔ (a < n ∧ S a = true) := by
        constructor
        · rintro ⟨p, q⟩
          exact ⟨by omega, q⟩
        · rintro ⟨p, q⟩
          exact ⟨by omega, q⟩
      by_cases h2 : a < n ∧ S a = true
      · rw [if_pos h2, if_pos (e.mpr h2), if_neg h1]
        split <;> omega
      · rw [if_neg h2, if_neg (fun z => h2 (e.mp z)), if_neg h1]
        split <;> omega
theorem caps_mod (c : Nat → Int) (S T : Nat → Bool) : ∀ n, caps c (fun k => S k || T k) n + caps c (fun k => S k && T k) n = caps c S n + caps c T n
  | 0 => rfl
  | n + 1 => by
    show (caps c (fun k => S k || T k) n + (if (S n || T n) = true then c n else 0)) + (caps c (fun k => S k && T k) n + (if (S n && T n) = true then c n else 0)) = (caps c S n + (if S n = true then c n else 0)) + (caps c T n + (if T n = true then c n else 0))
    have ih := caps_mod c S T n
    cases S n <;> cases T n <;> simp <;> omega
theorem inside_mod (S T : Nat → Bool) : ∀ bs, inside bs S + inside bs T ≤ inside bs (fun k => S k || T k) + inside bs (fun k => S k && T k)
  | [] => Nat.le_refl _
  | b :: bs => by
    have ih := inside_mod S T bs
    rw [inside_cons, inside_cons, inside_cons, inside_cons]
    cases S b.1 <;> cases S b.2 <;> cases T b.1 <;> cases T b.2 <;> simp [b2n] <;> omega
theorem caps_one (c : Nat → Int) (a : Nat) : ∀ n, caps c (fun k => k == a) n = if a < n then c a else 0
  | 0 => rfl
  | n + 1 => by
    show caps c (fun k => k == a) n + (if (n == a) = true then c n else 0) = _
    rw [caps_one c a n]
    by_cases h : n = a
    · subst h
      simp
    · have : (n == a) = false := by simpa using h
      rw [this, if_neg Bool.false_ne_true]
      by_cases h2 : a < n
      · rw [if_pos h2, if_pos (by omega)]; omega
      · rw [if_neg h2, if_neg (by omega)]; omega
theorem orient (n i : Nat) : ∀ (bs : List (Nat × Nat)) (c : Nat → Int), (∀ b ∈ bs, b.1 < n ∧ b.2 < n ∧ b.1 ≠ b.2) → (∀ S : Nat → Bool, S i = false → (inside bs S : Int) ≤ caps c S n) →
    ∃ o, o ∈ rows bs.length ∧ (∀ k, k < n → k ≠ i → (won bs o k : Int) ≤ c k) ∧ won bs o i = has bs i
  | [], c, _, h => by
    refine ⟨[], List.mem_singleton.mpr rfl, fun k hk hi => ?_, rfl⟩
    have := h (fun j => j == k) (by simpa using fun z => hi z.symm)
    rw [caps_one, if_pos hk] at this
    exact this
  | (a, b) :: bs, c, hb, h => by
    have hbs : ∀ x ∈ bs, x.1 < n ∧ x.2 < n ∧ x.1 ≠ x.2 := fun x hx => hb x (List.mem_cons_of_mem _ hx)
    obtain ⟨ha, hb', hab⟩ : a < n ∧ b < n ∧ a ≠ b := hb (a, b) List.mem_cons_self
    have w1 : winner (a, b) 1 = a := rfl
    have w0 : winner (a, b) 0 = b := rfl
    by_cases ea : a = i
    · obtain ⟨o, ho, h1, h2⟩ := orient n i bs c hbs fun S hS => by
        have := h S hS
        rw [inside_cons, show S (a, b).1 = false from ea ▸ hS] at this
        exact this
      refine ⟨1 :: o, mem_rows1 ho, fun k hk hi => ?_, ?_⟩
      · rw [won_cons, w1, show (a == k) = false by simpa using fun z => hi (z.symm.trans ea)]
        exact h1 k hk hi
      · rw [won_cons, has_cons, w1, h2, show (a == i) = true by simpa using ea]
        rfl
    · by_cases eb : b = i
      · obtain ⟨o, ho, h1, h2⟩ := orient n i bs c hbs fun S hS => by
          have := h S hS
          rw [inside_cons, show S (a, b).2 = false from eb ▸ hS, Bool.and_false] at this
          exact this
        refine ⟨0 :: o, mem_rows0 ho, fun k hk hi => ?_, ?_⟩
        · rw [won_cons, w0, show (b == k) = false by simpa using fun z => hi (z.symm.trans eb)]
          exact h1 k hk hi
        · rw [won_cons, has_cons, w0, h2, show (b == i) = true by simpa using eb, Bool.or_true]
      · have nai : (a == i) = false := by simpa using ea
        have nbi : (b == i) = false := by simpa using eb
        by_cases h1 : ∀ S : Nat → Bool, S i = false → (inside bs S : Int) ≤ caps (fun k => c k - (if k = a then 1 else 0)) S n
        · obtain ⟨o, ho, k1, k2⟩ := orient n i bs _ hbs h1
          refine ⟨1 :: o, mem_rows1 ho, fun k hk hi => ?_, ?_⟩
          · have := k1 k hk hi
            rw [won_cons, w1]
            by_cases e : a = k
            · subst e
              rw [if_pos rfl] at this
              simp [b2n]
              omega
            · rw [if_neg (fun z => e z.symm)] at this
              rw [show (a == k) = false by simpa using e]
              simp [b2n]
              omega
          · rw [won_cons, has_cons, w1, k2, nai, nbi]
            rfl
        · by_cases h2 : ∀ S : Nat → Bool, S i = false → (inside bs S : Int) ≤ caps (fun k => c k - (if k = b then 1 else 0)) S n
          · obtain ⟨o, ho, k1, k2⟩ := orient n i bs _ hbs h2
            refine ⟨0 :: o, mem_rows0 ho, fun k hk hi => ?_, ?_⟩
            · have := k1 k hk hi
              rw [won_cons, w0]
              by_cases e : b = k
              · subst e
                rw [if_pos rfl] at this
                simp [b2n]
                omega
              · rw [if_neg (fun z => e z.symm)] at this
                rw [show (b == k) = false by simpa using e]
                simp [b2n]
                omega
            · rw [won_cons, has_cons, w0, k2, nai, nbi]
              rfl
          · exfalso
            obtain ⟨S, hS⟩ := Classical.not_forall.mp h1
            obtain ⟨hSi, hS2⟩ := Classical.not_imp.mp hS
            obtain ⟨T, hT⟩ := Classical.not_forall.mp h2
            obtain ⟨hTi, hT2⟩ := Classical.not_imp.mp hT
            rw [caps_less] at hS2 hT2
            have s1 := h S hSi
            have t1 := h T hTi
            have u1 := h (fun k => S k || T k) (by show (S i || T i) = false; rw [hSi, hTi]; rfl)
            have v1 := h (fun k => S k && T k) (by show (S i && T i) = false; rw [hSi]; rfl)
            have cm := caps_mod c S T n
            have im := inside_mod S T bs
            rw [inside_cons] at s1 t1 u1 v1
            have s1 : ((inside bs S + b2n (S a && S b) : Nat) : Int) ≤ caps c S n := s1
            have t1 : ((inside bs T + b2n (T a && T b) : Nat) : Int) ≤ caps c T n := t1
            have u1 : ((inside bs (fun k => S k || T k) + b2n ((S a || T a) && (S b || T b)) : Nat) : Int) ≤ caps c (fun k => S k || T k) n := u1
            have v1 : ((inside bs (fun k => S k && T k) + b2n ((S a && T a) && (S b && T b)) : Nat) : Int) ≤ caps c (fun k => S k && T k) n := v1
            cases ea' : S a <;> cases eb' : S b <;> cases ta' : T a <;> cases tb' : T b <;>
              (simp only [ea', eb', ta', tb', ha, hb', true_and, and_true, and_self, Bool.and_true, Bool.and_false, Bool.true_and, Bool.false_and, Bool.or_true, Bool.or_false, Bool.true_or, Bool.false_or, Bool.and_self, Bool.or_self, Bool.false_eq_true, if_true, if_false, b2n, and_false] at s1 t1 u1 v1 hS2 hT2; omega)
/-! ### a predicate as a number -/
def mask (S : Nat → Bool) : Nat → Nat
  | 0 => 0
  | k + 1 => mask S k ||| (if S k = true then 2 ^ k else 0)
theorem mask_lt (S : Nat → Bool) : ∀ n, mask S n < 2 ^ n
  | 0 => Nat.one_pos
  | n + 1 => by
    have h := mask_lt S n
    show mask S n ||| _ < _
    refine Nat.or_lt_two_pow (Nat.lt_trans h (Nat.pow_lt_pow_right (by omega) (Nat.lt_succ_self n))) ?_
    split
    · exact Nat.pow_lt_pow_right (by omega) (Nat.lt_succ_self n)
    · exact Nat.two_pow_pos _
theorem mask_bit (S : Nat → Bool) (k : Nat) : ∀ n, (mask S n).testBit k = (decide (k < n) && S k)
  | 0 => by
    show Nat.testBit 0 k = _
    simp
  | n + 1 => by
    show (mask S n ||| _).testBit k = _
    rw [Nat.testBit_or, mask_bit S k n]
    by_cases e : n = k
    · subst e
      cases h : S n <;> simp [Nat.testBit_two_pow_self]
    · have e1 : decide (k < n + 1) = decide (k < n) := by
        rw [Bool.eq_iff_iff, decide_eq_true_iff, decide_eq_true_iff]
        omega
      rw [e1]
      split
      · rw [Nat.testBit_two_pow_of_ne e, Bool.or_false]
      · rw [Nat.zero_testBit, Bool.or_false]
theorem mem_sum (S : Nat → Bool) (w : Nat → Nat) (p : Int) : ∀ n, caps (fun k => p - (w k : Int)) S n = ((List.range n).filter S).length * p - ((((List.range n).filter S).map w).sum : Nat)
  | 0 => by simp [caps]
  | n + 1 => by
    show caps _ S n + (if S n = true then p - (w n : Int) else 0) = _
    rw [mem_sum S w p n, List.range_succ, List.filter_append, List.filter_cons, List.filter_nil]
    by_cases h : S n = true
    · rw [if_pos h, if_pos h, List.length_append, List.map_append, List.sum_append]
      simp only [List.length_cons, List.length_nil, List.map_cons, List.map_nil, List.sum_cons, List.sum_nil]
      rw [Int.natCast_add, Int.add_mul]
      omega
    · rw [if_neg h, if_neg h, List.append_nil]
      omega
theorem hall {s : Standing} (g : Good s) {i : Nat} (hi : i < s.count) (hc : s.can i = none) : ∃ t, t < 2 ^ s.count ∧ inWay s i t = true := by
  by_cases hx : ∃ t, t < 2 ^ s.count ∧ inWay s i t = true
  · exact hx
  exfalso
  have hno : ∀ t, t < 2 ^ s.count → inWay s i t = false := fun t ht => by
    by_cases e : inWay s i t = true
    · exact absurd ⟨t, ht, e⟩ hx
    · simpa using e
  obtain ⟨o, ho, h1, h2⟩ := orient s.count i s.bouts (fun k => (s.top i : Int) - (s.wins.getD k 0 : Nat)) g.pr fun S hS => by
    have ht := mask_lt S s.count
    have hb := fun k => mask_bit S k s.count
    have q := hno _ ht
    unfold inWay at q
    rw [hb i, hS, Bool.and_false, Bool.not_false, Bool.true_and, decide_eq_false_iff_not] at q
    have em : s.members (mask S s.count) = (List.range s.count).filter S := by
      apply List.filter_congr
      intro k hk
      rw [hb k, decide_eq_true (List.mem_range.mp hk), Bool.true_and]
    have eb : (s.bouts.filter fun b => (mask S s.count).testBit b.1 && (mask S s.count).testBit b.2) = s.bouts.filter fun b => S b.1 && S b.2 := by
      apply List.filter_congr
      intro b hbm
      have := g.pr b hbm
      rw [hb, hb, decide_eq_true (show b.1 < s.count from this.1), decide_eq_true (show b.2 < s.count from this.2.1), Bool.true_and, Bool.true_and]
    unfold Standing.share at q
    rw [em, eb] at q
    rw [mem_sum S (fun k => s.wins.getD k 0) (s.top i : Int) s.count]
    have q2 : ((((List.range s.count).filter S).map fun k => s.wins.getD k 0).sum + inside s.bouts S : Nat) ≤ ((List.range s.count).filter S).length * s.top i := Nat.not_lt.mp q
    have q3 : ((((List.range s.count).filter S).length * s.top i : Nat) : Int) = (((List.range s.count).filter S).length : Int) * (s.top i : Int) := Int.natCast_mul _ _
    omega
  unfold Standing.can at hc
  rw [List.find?_eq_none] at hc
  refine hc o ho ?_
  rw [first_iff]
  intro k hk
  have ei : s.ends o i = s.top i := by
    show s.wins.getD i 0 + won s.bouts o i = s.wins.getD i 0 + has s.bouts i
    rw [h2]
  rw [ei]
  by_cases e : k = i
  · subst e
    exact Nat.le_of_eq ei
  · have := h1 k hk e
    show s.wins.getD k 0 + won s.bouts o k ≤ _
    omega
end SF
namespace SF
open Sj10 (Call Ans Standing)
/-! ### the request as a list of calls -/
abbrev nj (l : List Nat) : List Int := l.map fun (n : Nat) => (n : Int)
def code : Call → Nat
  | .begins => 0
  | .wrestler _ => 1
  | .bout _ _ => 2
  | .check _ => 3
  | .can _ => 4
  | .odds _ => 5
  | .needs _ => 6
/-- what is handed in behind the call's number -/
def hand : Call → List Nat
  | .begins => []
  | .wrestler w => [w]
  | .bout i k => [i, k]
  | .check o => o.length :: o
  | .can i => [i]
  | .odds i => [i]
  | .needs i => [i]
def enc (c : Call) : List Nat := code c :: hand c
def encs (cs : List Call) : List Nat := cs.flatMap enc
/-- the row without the count -/
def row (c : Call) : List Nat := code c :: (match c with
  | .check o => o
  | c => hand c)
def ok12 : Call → Prop
  | .check o => o.length ≤ 12
  | _ => True
def ansI (r : Ans) : List Int := r.v :: r.l
def play : Standing → List Call → List (List Int)
  | _, [] => []
  | s, c :: r => ansI (Sj10.step s c).2 :: play (Sj10.step s c).1 r
theorem nj_back (l : List Nat) : (nj l).map Int.toNat = l := by
  unfold nj
  rw [List.map_map]
  induction l with
  | nil => rfl
  | cons x l ih =>
    rw [List.map_cons, ih]
    rfl
theorem nj_of : ∀ {l : List Int}, (∀ x ∈ l, 0 ≤ x) → l = nj (l.map Int.toNat)
  | [], _ => rfl
  | x :: l, h => by
    have ih := nj_of (l := l) fun y hy => h y (List.mem_cons_of_mem _ hy)
    have hx := h x List.mem_cons_self
    show x :: l = ((x.toNat : Nat) : Int) :: nj (l.map Int.toNat)
    rw [← ih, Int.toNat_of_nonneg hx]
theorem nj_one {x : Int} (h : 0 ≤ x) : x = ((x.toNat : Nat) : Int) := (Int.toNat_of_nonneg h).symm
theorem within_pos {hi x : Int} (h : PyInside.within 0 hi x = true) : 0 ≤ x := by
  unfold PyInside.within at h
  rw [Bool.and_eq_true, decide_eq_true_iff] at h
  exact h.1
theorem callOf_row {c : Call} (h : ok12 c) : Sj10Neutral.callOf (nj (row c)) = some c := by
  unfold Sj10Neutral.callOf
  rw [nj_back]
  cases c with
  | check o =>
    show (if o.length ≤ 12 then some (Call.check o) else none) = _
    exact if_pos h
  | _ => rfl
theorem step_row {c : Call} (h : ok12 c) (s : Standing) : Sj10Neutral.step s [nj (row c)] = ((Sj10.step s c).1, ansI (Sj10.step s c).2) := by
  unfold Sj10Neutral.step
  show (match Sj10Neutral.callOf (nj (row c)) with
    | none => (s, [])
    | some q => ((Sj10.step s q).1, (Sj10.step s q).2.v :: (Sj10.step s q).2.l)) = _
  rw [callOf_row h]
  rfl
theorem played_row : ∀ (cs : List Call) (s : Standing), (∀ c ∈ cs, ok12 c) → PyFlat.played Sj10Neutral.step s (cs.map fun c => [nj (row c)]) = play s cs
  | [], _, _ => rfl
  | c :: cs, s, h => by
    show (Sj10Neutral.step s [nj (row c)]).2 :: PyFlat.played Sj10Neutral.step (Sj10Neutral.step s [nj (row c)]).1 (cs.map fun c => [nj (row c)]) = _
    rw [step_row (h c List.mem_cons_self), played_row cs _ fun d hd => h d (List.mem_cons_of_mem _ hd)]
    rfl
theorem call_of {p : Int} {n k : Nat} (hs : PySj10.shape p = some (n, k)) (r : List Int) : PyFlat.call PySj10.shape (p :: r) = if r.length < n then none else match PyFlat.rows k (r.drop n) with
    | none => none
    | some (xs, t) => some ((p :: r.take n) :: xs, t) := by
  show (match PySj10.shape p with
    | none => none
    | some (n, k) => if r.length < n then none else match PyFlat.rows k (r.drop n) with
      | none => none
      | some (xs, t) => some ((p :: r.take n) :: xs, t)) = _
  rw [hs]
theorem call_no {p : Int} (hs : PySj10.shape p = none) (r : List Int) : PyFlat.call PySj10.shape (p :: r) = none := by
  show (match PySj10.shape p with
    | none => none
    | some (n, k) => if r.length < n then none else match PyFlat.rows k (r.drop n) with
      | none => none
      | some (xs, t) => some ((p :: r.take n) :: xs, t)) = _
  rw [hs]
theorem inside_of (p : Int) (xs : List Int) (rs : List (List Int)) : PyInside.call PySj10.bound ((p :: xs) :: rs) = (PyInside.each (PySj10.bound p).1 xs && PyInside.lists (PySj10.bound p).2 rs) := rfl
theorem one_dec {p : Int} {r : List Int} {c : List (List Int)} {t : List Int} (h : PyFlat.call PySj10.shape (p :: r) = some (c, t)) (hi : PyInside.call PySj10.bound c = true) :
    ∃ q : Call, p :: r = nj (enc q) ++ t ∧ PySj10.whole c = [nj (row q)] ∧ ok12 q := by
  have one : ∀ (z : Nat) (mk : Nat → Call), (∀ x, enc (mk x) = [z, x]) → (∀ x, row (mk x) = [z, x]) → (∀ x, ok12 (mk x)) → p = (z : Int) → PySj10.shape (z : Int) = some (1, 0) → PySj10.bound (z : Int) = ([(0, 4294967295)], []) → (∀ x : Int, PySj10.whole [[(z : Int), x]] = [[(z : Int), x]]) →
      ∃ q : Call, p :: r = nj (enc q) ++ t ∧ PySj10.whole c = [nj (row q)] ∧ ok12 q := by
    intro z mk h1 h2 h3 e hs hb hw
    subst e
    rw [call_of hs] at h
    cases r with
    | nil => simp at h
    | cons x r =>
      simp [PyFlat.rows] at h
      obtain ⟨rfl, rfl⟩ := h
      have hx : 0 ≤ x := by
        rw [inside_of, hb] at hi
        simp [PyInside.each, PyInside.lists] at hi
        exact within_pos hi
      refine ⟨mk x.toNat, ?_, ?_, h3 _⟩
      · rw [h1]
        show (z : Int) :: x :: r = (z : Int) :: ((x.toNat : Nat) : Int) :: r
        rw [← nj_one hx]
      · rw [h2, hw]
        show [[(z : Int), x]] = [[(z : Int), ((x.toNat : Nat) : Int)]]
        rw [← nj_one hx]
  by_cases p0 : p = 0
  · subst p0
    rw [call_of (show PySj10.shape 0 = some (0, 0) from rfl)] at h
    simp [PyFlat.rows] at h
    obtain ⟨rfl, rfl⟩ := h
    exact ⟨.begins, rfl, rfl, trivial⟩
  by_cases p1 : p = 1
  · exact one 1 .wrestler (fun _ => rfl) (fun _ => rfl) (fun _ => trivial) p1 rfl rfl (fun _ => rfl)
  by_cases p2 : p = 2
  · subst p2
    rw [call_of (show PySj10.shape 2 = some (2, 0) from rfl)] at h
    cases r with
    | nil => simp at h
    | cons x r =>
      cases r with
      | nil => simp at h
      | cons y r =>
        simp [PyFlat.rows] at h
        obtain ⟨e, rfl⟩ := h
        have hn : ¬ r.length + 1 + 1 < 2 := by omega
        subst e
        rw [inside_of, show PySj10.bound 2 = ([(0, 4294967295), (0, 4294967295)], []) from rfl] at hi
        simp [PyInside.each, PyInside.lists] at hi
        have hx := within_pos hi.1
        have hy := within_pos hi.2
        refine ⟨.bout x.toNat y.toNat, ?_, ?_, trivial⟩
        · show (2 : Int) :: x :: y :: r = 2 :: ((x.toNat : Nat) : Int) :: ((y.toNat : Nat) : Int) :: r
          rw [← nj_one hx, ← nj_one hy]
        · show [[(2 : Int), x, y]] = [[2, ((x.toNat : Nat) : Int), ((y.toNat : Nat) : Int)]]
          rw [← nj_one hx, ← nj_one hy]
  by_cases p3 : p = 3
  · subst p3
    rw [call_of (show PySj10.shape 3 = some (0, 1) from rfl)] at h
    cases r with
    | nil => simp [PyFlat.rows, PyFlat.row] at h
    | cons n r =>
      by_cases hn : 0 ≤ n ∧ n.toNat ≤ r.length
      · simp only [List.length_cons, Nat.not_lt_zero, if_false, List.drop_zero, List.take_zero, PyFlat.rows, PyFlat.row, if_pos hn] at h
        have h := Option.some.inj h
        obtain ⟨rfl, rfl⟩ := Prod.mk.inj h
        rw [inside_of, show PySj10.bound 3 = ([], [(0, 4294967295, 0, 12)]) from rfl] at hi
        simp only [PyInside.each, PyInside.lists, Bool.true_and, Bool.and_true, Bool.and_eq_true, decide_eq_true_eq, List.all_eq_true] at hi
        obtain ⟨⟨_, h12⟩, hall⟩ := hi
        have hnj := nj_of (l := r.take n.toNat) fun x hx => within_pos (hall x hx)
        have hlen : ((r.take n.toNat).map Int.toNat).length = n.toNat := by
          rw [List.length_map, List.length_take]
          omega
        refine ⟨.check ((r.take n.toNat).map Int.toNat), ?_, ?_, ?_⟩
        · show (3 : Int) :: n :: r = 3 :: ((((r.take n.toNat).map Int.toNat).length : Nat) : Int) :: (nj ((r.take n.toNat).map Int.toNat) ++ r.drop n.toNat)
          rw [hlen, ← hnj, List.take_append_drop, ← nj_one hn.1]
        · show [3 :: r.take n.toNat] = [3 :: nj ((r.take n.toNat).map Int.toNat)]
          rw [← hnj]
        · show ((r.take n.toNat).map Int.toNat).length ≤ 12
          rw [List.length_map]
          exact h12
      · simp only [List.length_cons, Nat.not_lt_zero, if_false, List.drop_zero, List.take_zero, PyFlat.rows, PyFlat.row, if_neg hn] at h
        cases h
  by_cases p4 : p = 4
  · exact one 4 .can (fun _ => rfl) (fun _ => rfl) (fun _ => trivial) p4 rfl rfl (fun _ => rfl)
  by_cases p5 : p = 5
  · exact one 5 .odds (fun _ => rfl) (fun _ => rfl) (fun _ => trivial) p5 rfl rfl (fun _ => rfl)
  by_cases p6 : p = 6
  · exact one 6 .needs (fun _ => rfl) (fun _ => rfl) (fun _ => trivial) p6 rfl rfl (fun _ => rfl)
  · rw [call_no (by unfold PySj10.shape; rw [if_neg p0, if_neg p1, if_neg p2, if_neg p3, if_neg p4, if_neg p5, if_neg p6])] at h
    cases h
theorem all_dec : ∀ (f : Nat) (l : List Int) (raw : List (List (List Int))), PyFlat.calls PySj10.shape f l = some raw → PyInside.calls PySj10.bound raw = true →
    ∃ cs : List Call, l = nj (encs cs) ∧ raw.map PySj10.whole = cs.map (fun c => [nj (row c)]) ∧ ∀ c ∈ cs, ok12 c
  | f, [], raw, h, _ => by
    have e : raw = [] := by
      cases f <;> exact (Option.some.inj h).symm
    subst e
    exact ⟨[], rfl, rfl, fun c hc => nomatch hc⟩
  | 0, p :: r, raw, h, _ => by cases h
  | f + 1, p :: r, raw, h, hi => by
    unfold PyFlat.calls at h
    cases h1 : PyFlat.call PySj10.shape (p :: r) with
    | none => rw [h1] at h; cases h
    | some ct =>
      obtain ⟨c, t⟩ := ct
      rw [h1] at h
      have h : (match PyFlat.calls PySj10.shape f t with
        | none => none
        | some cs => some (c :: cs)) = some raw := h
      cases h2 : PyFlat.calls PySj10.shape f t with
      | none => rw [h2] at h; cases h
      | some cs =>
        rw [h2] at h
        have e : c :: cs = raw := Option.some.inj h
        subst e
        have hi' : (PyInside.call PySj10.bound c && PyInside.calls PySj10.bound cs) = true := hi
        rw [Bool.and_eq_true] at hi'
        obtain ⟨q, e1, e2, e3⟩ := one_dec h1 hi'.1
        obtain ⟨qs, k1, k2, k3⟩ := all_dec f t cs h2 hi'.2
        refine ⟨q :: qs, ?_, ?_, fun d hd => ?_⟩
        · rw [e1, k1]
          show nj (enc q) ++ nj (encs qs) = nj (enc q ++ encs qs)
          unfold nj
          rw [List.map_append]
        · rw [List.map_cons, List.map_cons, e2, k2]
        · rcases List.mem_cons.mp hd with z | z
          · rw [z]; exact e3
          · exact k3 d z
theorem decode {l : List Int} (h : PySj10.answers_asked l = true) : ∃ cs : List Call, l = nj (encs cs) ∧ PySj10.answers l = PyFlat.told (play Sj10.init cs) ∧ cs.length ≤ 60 ∧ (∀ c ∈ cs, ok12 c) ∧ (PySj10.answers l).length ≤ 10000000 := by
  unfold PySj10.answers_asked at h
  cases hr : PyFlat.calls PySj10.shape l.length l with
  | none => rw [hr] at h; cases h
  | some raw =>
    rw [hr] at h
    simp only [Bool.and_eq_true] at h
    obtain ⟨⟨⟨⟨_, h60⟩, hin⟩, _⟩, hsh⟩ := h
    obtain ⟨cs, e1, e2, e3⟩ := all_dec _ _ _ hr hin
    refine ⟨cs, e1, ?_, ?_, e3, of_decide_eq_true hsh⟩
    · unfold PySj10.answers PySj10.calls
      rw [hr]
      show PyFlat.told (PyFlat.played Sj10Neutral.step Sj10Neutral.start (raw.map PySj10.whole)) = _
      rw [e2, show Sj10Neutral.start = Sj10.init from rfl, played_row cs _ e3]
    · have hl := congrArg List.length e2
      rw [List.length_map, List.length_map] at hl
      have h60 : raw.length ≤ 60 := of_decide_eq_true h60
      omega
end SF
namespace SF
open PySem PySem.Spec PyProof.Rows L2
/-- natural numbers as whole ones -/
abbrev ni (l : List Nat) : List Int := l.map fun (n : Nat) => (n : Int)
/-! ### two rules that the layer lacks: xs[k] op= e; max(xs, default=d) -/
def rGetN (K : PySem.W.Frag) : V → V → Hp → VK → Prop := fun o i H Q => ∃ p xs v, ∃ k : Nat, o = .ref p ∧ i = .int (k : Int) ∧ SqL K H p xs ∧ xs[k]? = some v ∧ Q v H
theorem get_listN {X : Cx} : PGet X (rGetN X.K) := by
  intro pins s σ H o i ov iv Q I ro ri hyp
  obtain ⟨p, xs, z, k, rfl, rfl, hq, he, q⟩ := hyp
  obtain rfl : ov = Value.ref p := ro
  obtain ⟨t, rfl⟩ := ri
  obtain ⟨items, r, pl, hz⟩ := I.list hq
  obtain ⟨w, ew, rw'⟩ := r.get he
  have hl := r.length
  have hn := line63
  have hk : k < xs.length := (List.getElem?_eq_some_iff.mp he).1
  exact PyProof.Rows.getItem_listL pl.isList (by omega) (by omega) (by simpa using ew) ⟨z, H, I, rw', q⟩
theorem maxOf_mem : ∀ (ys : List Int) (y : Int), PySem.W.maxOf y ys ∈ y :: ys
  | [], y => List.mem_cons_self
  | x :: ys, y => by
    have h := maxOf_mem ys (if PySem.W.DatumOrd.lt y x = true then x else y)
    show PySem.W.maxOf (if PySem.W.DatumOrd.lt y x = true then x else y) ys ∈ y :: x :: ys
    rcases List.mem_cons.mp h with e | e
    · rw [e]
      split
      · exact List.mem_cons_of_mem _ List.mem_cons_self
      · exact List.mem_cons_self
    · exact List.mem_cons_of_mem _ (List.mem_cons_of_mem _ e)
theorem maxOf_le : ∀ (ys : List Int) (y : Int), y ≤ PySem.W.maxOf y ys ∧ ∀ x ∈ ys, x ≤ PySem.W.maxOf y ys
  | [], y => ⟨Int.le_refl _, fun x hx => nomatch hx⟩
  | x :: ys, y => by
    obtain ⟨h1, h2⟩ := maxOf_le ys (if PySem.W.DatumOrd.lt y x = true then x else y)
    have e : PySem.W.maxOf y (x :: ys) = PySem.W.maxOf (if PySem.W.DatumOrd.lt y x = true then x else y) ys := rfl
    rw [e]
    have h3 : y ≤ (if PySem.W.DatumOrd.lt y x = true then x else y) ∧ x ≤ (if PySem.W.DatumOrd.lt y x = true then x else y) := by
      by_cases c : PySem.W.DatumOrd.lt y x = true
      · have c' : y < x := of_decide_eq_true c
        rw [if_pos c]
        omega
      · have c' : ¬ y < x := fun z => c (decide_eq_true z)
        rw [if_neg c]
        omega
    refine ⟨Int.le_trans h3.1 h1, fun z hz => ?_⟩
    rcases List.mem_cons.mp hz with e' | e'
    · rw [e']
      exact Int.le_trans h3.2 h1
    · exact h2 z e'
def rMaxDf (K : PySem.W.Frag) : List V → List V → Hp → VK → Prop := fun vs zs H Q => ∃ (a : Addr) (ns : List Int) (d : Int), vs = [V.ref a] ∧ zs = [V.int d] ∧ SqL K H a (ns.map V.int) ∧
  (ns = [] → Q (.int d) H) ∧ ∀ m, m ∈ ns → (∀ y, y ∈ ns → y ≤ m) → Q (.int m) H
theorem cr_maxDf {X : Cx} (hc : X.calm = true) (hu : X.A.units + 1 < cLine) : CallRK X (.builtin "max") [Str.ofString "default"] (rMaxDf X.K) := by
  intro pins s σ H vs zs us ws Q I r rz hyp
  obtain ⟨a, ns, d, rfl, rfl, hs, q0, q1⟩ := hyp
  obtain rfl := Vals.ref1 r
  obtain ⟨w1, rfl, t, rfl⟩ := vals1 rz
  obtain ⟨items, rv, hl, _⟩ := I.list hs
  have hi := rv.ints
  refine PySem.W.max_list_datum_default (xs := ns) (I.ok.hd hc) hl.isList (by simpa using PySem.W.HoldAll.of_ints hi) hu (fun e h' tk hk => ⟨.int d, H, I.kept hk, ⟨_, rfl⟩, q0 e⟩) fun y ys i v h' tk e hv hh hk => ?_
  have hm := maxOf_mem ys y
  have hle := maxOf_le ys y
  obtain ⟨t', ev⟩ : ∃ t', v = .int (PySem.W.maxOf y ys) t' := by
    obtain ⟨as, hr⟩ := hh
    cases hr
    exact ⟨_, rfl⟩
  rw [ev]
  refine ⟨.int _, H, I.kept hk, ⟨_, rfl⟩, q1 _ (by rw [e]; exact hm) fun z hz => ?_⟩
  rw [e] at hz
  rcases List.mem_cons.mp hz with e' | e'
  · rw [e']; exact hle.1
  · exact hle.2 z e'
/-! ### heaps -/
theorem Same.new {H : Hp} {p : Addr} {o : HO} (h : H p = none) : Same H (upd H p o) := fun b x e => by
  rw [upd_ne (ne_of_none e h)]
  exact e
/-- a change where H tracks nothing -/
theorem Same.mut {H H' : Hp} {p : Addr} {o : HO} (e : Same H H') (h : H p = none) : Same H (upd H' p o) := fun a u ha => by
  rw [upd_ne (ne_of_none ha h)]
  exact e a u ha
/-- whole numbers as values -/
def iv (l : List Nat) : List V := (ni l).map V.int
theorem iv_length (l : List Nat) : (iv l).length = l.length := by
  unfold iv ni
  rw [List.length_map, List.length_map]
theorem iv_get {l : List Nat} {i x : Nat} (h : l[i]? = some x) : (iv l)[i]? = some (.int (x : Int)) := by
  unfold iv ni
  rw [List.getElem?_map, List.getElem?_map, h]
  rfl
theorem iv_of {l : List Nat} {i : Nat} {v : V} (h : (iv l)[i]? = some v) : ∃ x : Nat, l[i]? = some x ∧ v = .int (x : Int) := by
  unfold iv ni at h
  rw [List.getElem?_map, List.getElem?_map] at h
  cases e : l[i]? with
  | none =>
    rw [e] at h
    cases h
  | some x =>
    rw [e] at h
    exact ⟨x, rfl, (Option.some.inj h).symm⟩
theorem iv_append (a b : List Nat) : iv (a ++ b) = iv a ++ iv b := by
  unfold iv ni
  rw [List.map_append, List.map_append]
theorem iv_cons (a : Nat) (b : List Nat) : iv (a :: b) = V.int (a : Int) :: iv b := rfl
theorem iv_set (l : List Nat) (j x : Nat) : (iv l).set j (.int (x : Int)) = iv (l.set j x) := by
  unfold iv ni
  rw [List.map_set, List.map_set]
theorem iv_flat (l : List Nat) : (iv l).all flatV = true := by
  unfold iv
  rw [List.all_eq_true]
  intro x hx
  obtain ⟨z, _, rfl⟩ := List.mem_map.mp hx
  rfl
theorem iv_in (l : List Nat) (x : Nat) : inV (.int (x : Int)) (iv l) = decide (x ∈ l) := by
  unfold inV iv ni
  rw [List.map_map, List.any_map, Bool.eq_iff_iff, List.any_eq_true, decide_eq_true_iff]
  constructor
  · rintro ⟨y, hy, e⟩
    have e' : ((y : Int) == (x : Int)) = true := e
    have e2 := eq_of_beq e'
    have : y = x := by omega
    rw [← this]
    exact hy
  · intro h
    exact ⟨x, h, show ((x : Int) == (x : Int)) = true from beq_self_eq_true _⟩
theorem sz {n : Nat} (h : n ≤ 100000) : n < sizeLine := Nat.lt_of_le_of_lt h (by decide)
theorem szle {n : Nat} (h : n ≤ 100000) : n ≤ sizeLine := Nat.le_of_lt (sz h)
/-- the bouts as they lie in the heap: a list of pairs -/
structure PairsAt (H : Hp) (b : Addr) (ts : List Addr) (bs : List (Nat × Nat)) : Prop where
  lst : H b = some (.lst (ts.map V.ref))
  len : ts.length = bs.length
  at_ : ∀ (i : Nat) (p : Nat × Nat), bs[i]? = some p → ∃ t, ts[i]? = some t ∧ H t = some (.tup [.int (p.1 : Int), .int (p.2 : Int)])
theorem PairsAt.same {H H' : Hp} {b : Addr} {ts : List Addr} {bs : List (Nat × Nat)} (h : PairsAt H b ts bs) (e : Same H H') : PairsAt H' b ts bs :=
  ⟨e _ _ h.lst, h.len, fun i p hp => let ⟨t, h1, h2⟩ := h.at_ i p hp; ⟨t, h1, e _ _ h2⟩⟩
/-- a list of lists of whole numbers -/
structure ListsAt (H : Hp) (b : Addr) (ts : List Addr) (ls : List (List Nat)) : Prop where
  lst : H b = some (.lst (ts.map V.ref))
  len : ts.length = ls.length
  at_ : ∀ (i : Nat) (l : List Nat), ls[i]? = some l → ∃ t, ts[i]? = some t ∧ H t = some (.lst (iv l))
theorem ListsAt.same {H H' : Hp} {b : Addr} {ts : List Addr} {ls : List (List Nat)} (h : ListsAt H b ts ls) (e : Same H H') : ListsAt H' b ts ls :=
  ⟨e _ _ h.lst, h.len, fun i p hp => let ⟨t, h1, h2⟩ := h.at_ i p hp; ⟨t, h1, e _ _ h2⟩⟩
theorem refs_get {ts : List Addr} {i : Nat} {v : V} (h : (ts.map V.ref)[i]? = some v) : ∃ t, ts[i]? = some t ∧ v = .ref t := by
  rw [List.getElem?_map] at h
  cases e : ts[i]? with
  | none =>
    rw [e] at h
    cases h
  | some x =>
    rw [e] at h
    exact ⟨x, rfl, (Option.some.inj h).symm⟩
theorem get_of_lt {α : Type} {l : List α} {i : Nat} (h : i < l.length) : ∃ x, l[i]? = some x := ⟨l[i], List.getElem?_eq_getElem h⟩
theorem lt_of_get {α : Type} {l : List α} {i : Nat} {x : α} (h : l[i]? = some x) : i < l.length := (List.getElem?_eq_some_iff.mp h).1
theorem PairsAt.get {H : Hp} {b : Addr} {ts : List Addr} {bs : List (Nat × Nat)} (h : PairsAt H b ts bs) {i : Nat} {v : V} (hv : (ts.map V.ref)[i]? = some v) :
    ∃ t p, bs[i]? = some p ∧ v = .ref t ∧ H t = some (.tup [.int (p.1 : Int), .int (p.2 : Int)]) := by
  obtain ⟨t, ht, rfl⟩ := refs_get hv
  obtain ⟨p, hp⟩ := get_of_lt (l := bs) (i := i) (by rw [← h.len]; exact lt_of_get ht)
  obtain ⟨t', h1, h2⟩ := h.at_ i p hp
  have e : t' = t := Option.some.inj (h1.symm.trans ht)
  exact ⟨t, p, hp, rfl, by rw [← e]; exact h2⟩
theorem ListsAt.get {H : Hp} {b : Addr} {ts : List Addr} {ls : List (List Nat)} (h : ListsAt H b ts ls) {i : Nat} {v : V} (hv : (ts.map V.ref)[i]? = some v) :
    ∃ t l, ls[i]? = some l ∧ v = .ref t ∧ H t = some (.lst (iv l)) := by
  obtain ⟨t, ht, rfl⟩ := refs_get hv
  obtain ⟨p, hp⟩ := get_of_lt (l := ls) (i := i) (by rw [← h.len]; exact lt_of_get ht)
  obtain ⟨t', h1, h2⟩ := h.at_ i p hp
  have e : t' = t := Option.some.inj (h1.symm.trans ht)
  exact ⟨t, p, hp, rfl, by rw [← e]; exact h2⟩
/-- tests -/
theorem if_true_of {c : Bool} {A B : Prop} (hc : c = true) (h : A) : if c = true then A else B := by
  rw [if_pos hc]
  exact h
theorem if_false_of {c : Bool} {A B : Prop} (hc : c = false) (h : B) : if c = true then A else B := by
  rw [hc, if_neg Bool.false_ne_true]
  exact h
/-- the text, by places -/
def top (i : Nat) : Stmt := PySem.Challenge.pw_stillfirst_s01_answers.main.body.getD i (.Pass ⟨0, 0, 0, 0⟩)
end SF
namespace SF
open PySem PySem.Spec PyProof.Rows L2
abbrev sIsOutcome : Stmt := top 1
abbrev sEnds : Stmt := top 2
abbrev sHow : Stmt := top 3
abbrev sIsFirst : Stmt := top 4
theorem scIsOutcome : FnScope ["numbers", "bouts", "number"] ["numbers", "bouts"] (defScope sIsOutcome) := ⟨rfl, rfl, rfl, by decide +kernel, rfl, by decide +kernel, by decide +kernel⟩
theorem scEnds : FnScope ["wins", "bouts", "outcome", "ends", "pair", "won", "winner"] ["wins", "bouts", "outcome"] (defScope sEnds) := ⟨rfl, rfl, rfl, by decide +kernel, rfl, by decide +kernel, by decide +kernel⟩
theorem scHow : FnScope ["ends"] ["ends"] (defScope sHow) := ⟨rfl, rfl, rfl, by decide +kernel, rfl, by decide +kernel, by decide +kernel⟩
theorem scIsFirst : FnScope ["ends", "who"] ["ends", "who"] (defScope sIsFirst) := ⟨rfl, rfl, rfl, by decide +kernel, rfl, by decide +kernel, by decide +kernel⟩
section
variable {P : Program} {w : World} {K : PySem.W.Frag} {mg : Str → Option Value} {base : Heap}
/-! ### is_outcome -/
def isOut (xs : List Nat) (n : Nat) : Bool := decide (xs.length = n) && xs.all fun x => decide (x < 2)
def spIsOutcome (K : PySem.W.Frag) : Sp := fun vs H Q _ => ∃ (a b : Addr) (xs : List Nat) (ys : List V), vs = [.ref a, .ref b] ∧ H a = some (.lst (iv xs)) ∧ H b = some (.lst ys) ∧
  ∀ H', Same H H' → Q (.bl (isOut xs ys.length)) H'
theorem ok_isOutcome {f : Addr} {fd : FuncData} {k : Nat} (F : Fun K "is_outcome" "is_outcome" sIsOutcome f fd) (ml : mg "len" = none) : FnOk P w K mg base CX0 (k + 1) f fd ["numbers", "bouts"] (spIsOutcome K) := by
  refine F.ok scIsOutcome (fun vs H Q E h => ?_) (fun cdv A outer s H vs Q E hr h => ?_)
  · obtain ⟨a, b, xs, ys, rfl, _⟩ := h
    rfl
  · obtain ⟨a, b, xs, ys, rfl, ha, hb, q⟩ := h
    refine ⟨_, pss_cons (ps_if (pt_cmpR op_ne (pe_callB call_len_seq (by rfl) ml PySem.boot_len (pa_cons (pv 0) pa_nil)) (pe_callB call_len_seq (by rfl) ml PySem.boot_len (pa_cons (pv 1) pa_nil)) (nomark _)) (pss_one (ps_ret pe_bl)) pss_nil)
      (pss_cons (ps_for PassesOwn.never rfl (pi_list (pv 0)) (pg_name (i := 2) scIsOutcome.nd rfl (.inl rfl))
        (pss_one (ps_if (pt_cmpR op_notIn_seq (pv 2) (pe_tup (pa_cons pe_int (pa_cons pe_int pa_nil))) (by rfl)) (pss_one (ps_ret pe_bl)) pss_nil)))
      (pss_one (ps_ret pe_bl))), ?_⟩
    refine ⟨.ref a, rfl, a, iv xs, rfl, .inl (SqL.of ha), .ref b, rfl, b, ys, rfl, .inl (SqL.of hb), rfl, _, rfl, ?_⟩
    by_cases c : xs.length = ys.length
    · refine if_false_of (by rw [iv_length, c]; simp) ?_
      refine ⟨.ref a, rfl, a, rfl, ⟨_, SqL.of ha⟩, for_list (K := K) (a := a) (xs := iv xs) (fun i σ H' => ∃ v, σ = [some (.ref a), some (.ref b), v] ∧ Same H H' ∧ (xs.take i).all (fun x => decide (x < 2)) = true)
        ⟨none, rfl, Same.refl _, rfl⟩ (fun i σ H' _ ⟨_, _, s1, _⟩ => s1.seq (SqL.of ha)) ?_ ?_⟩
      · rintro i y σ H' hi ⟨v, rfl, s1, hall⟩
        obtain ⟨x, hx, rfl⟩ := iv_of hi
        refine ⟨.int (x : Int), rfl, (by show 2 ≤ sizeLine; decide), fun t ht => ?_⟩
        have s2 := s1.trans (Same.new (o := .tup [V.int 0, V.int 1]) ht)
        refine ⟨t, [V.int 0, V.int 1], rfl, .inr (SqT.of upd_same), rfl, rfl, _, rfl, ?_⟩
        have e2 : inV (V.int (x : Int)) [V.int 0, V.int 1] = decide (x < 2) := by
          have := iv_in [0, 1] x
          rw [show iv [0, 1] = [V.int 0, V.int 1] from rfl] at this
          rw [this, Bool.eq_iff_iff, decide_eq_true_iff, decide_eq_true_iff]
          simp only [List.mem_cons, List.not_mem_nil, or_false]
          omega
        have emore : (xs.take (i + 1)).all (fun x => decide (x < 2)) = decide (x < 2) := by
          rw [take_more hx, List.all_append, hall]
          simp
        by_cases h2 : x < 2
        · refine if_false_of (by rw [e2, decide_eq_true h2]; rfl) ⟨_, rfl, s2, ?_⟩
          rw [emore, decide_eq_true h2]
        · refine if_true_of (by rw [e2, decide_eq_false h2]; rfl) ?_
          have ef : isOut xs ys.length = false := by
            unfold isOut
            rw [Bool.and_eq_false_iff]
            refine .inr ?_
            rw [List.all_eq_false]
            exact ⟨x, List.mem_of_getElem? hx, by simpa using h2⟩
          have := q _ s2
          rw [ef] at this
          exact this
      · rintro σ H' ⟨v, rfl, s1, hall⟩
        rw [iv_length, List.take_length] at hall
        have et : isOut xs ys.length = true := by
          unfold isOut
          rw [decide_eq_true c, hall]
          rfl
        have := q _ s1
        rw [et] at this
        exact this
    · refine if_true_of (by rw [iv_length]; simp; omega) ?_
      have ef : isOut xs ys.length = false := by
        unfold isOut
        rw [decide_eq_false c]
        rfl
      have := q _ (Same.refl H)
      rw [ef] at this
      exact this
/-! ### wins_in_the_end -/
theorem place_of {n k : Nat} (h : k < n) : ixN n (k : Int) = some k := by
  unfold ixN
  rw [if_pos (by omega), if_pos (by omega)]
  rfl
def spEnds : Sp := fun vs H Q _ => ∃ (a b c : Addr) (ts : List Addr) (s : Sj10.Standing) (o : List Nat), vs = [.ref a, .ref b, .ref c] ∧ H a = some (.lst (iv s.wins)) ∧ PairsAt H b ts s.bouts ∧ H c = some (.lst (iv o)) ∧ o.length = s.bouts.length ∧ Good s ∧
  ∀ H' p, Same H H' → H p = none → H' p = some (.lst (iv (endsL s o))) → Q (.ref p) H'
theorem endsZ_more {ws : List Nat} {z : List ((Nat × Nat) × Nat)} {i : Nat} {x : (Nat × Nat) × Nat} (h : z[i]? = some x) : endsZ ws (z.take (i + 1)) = bump (endsZ ws (z.take i)) (Sj10.winner x.1 x.2) := by
  unfold endsZ
  rw [take_more h, List.foldl_append]
  rfl
theorem ok_ends {f : Addr} {fd : FuncData} {k : Nat} (F : Fun K "wins_in_the_end" "wins_in_the_end" sEnds f fd) (mL : mg "list" = none) (mz : mg "zip" = none) : FnOk P w K mg base CX0 (k + 1) f fd ["wins", "bouts", "outcome"] spEnds := by
  refine F.ok scEnds (fun vs H Q E h => ?_) (fun cdv A outer s H vs Q E hr h => ?_)
  · obtain ⟨a, b, c, ts, s, o, rfl, _⟩ := h
    rfl
  · obtain ⟨a, b, c, ts, s, o, rfl, ha, hb, hc, hlen, g, q⟩ := h
    refine ⟨_, pss_cons (ps_set (i := 3) scEnds.nd rfl (.inl rfl) (pe_callTy call_list_of (by rfl) mL (by decide +kernel) (pa_cons (pv 0) pa_nil)))
      (pss_cons (ps_for PassesOwn.never rfl (pi_zip (by rfl) mz (pa_cons (pv 1) (pa_cons (pv 2) pa_nil)))
          (pg_tup rfl (pgs_cons (pg_name (i := 4) scEnds.nd rfl (.inl rfl)) (pgs_cons (pg_name (i := 5) scEnds.nd rfl (.inl rfl)) pgs_nil)))
        (pss_cons (ps_set (i := 6) scEnds.nd rfl (.inl rfl) (pe_ifExp (pt_cmpR op_eq (pv 5) pe_int (nomark _)) (pe_ix ix_tup (pv 4) pe_int (fun _ _ => rfl)) (pe_ix ix_tup (pv 4) pe_int (fun _ _ => rfl))))
        (pss_one (ps_augS (pv 3) (pv 6) get_listN pe_int ip_add set_list))))
      (pss_one (ps_ret (pv 3)))), ?_⟩
    refine ⟨.ref a, rfl, a, iv s.wins, rfl, .inl (SqL.of ha), fun p np => ?_⟩
    have s1 : Same H (upd H p (.lst (iv s.wins))) := Same.new np
    refine ⟨.ref b, rfl, .ref c, rfl, b, c, ts.map V.ref, iv o, rfl, SqL.of (hb.same s1).lst, SqL.of (s1 _ _ hc), ?_⟩
    refine RZ.for_zipL (K := K) (by rw [List.length_map, hb.len, iv_length, hlen]) (fun i σ H' => ∃ y4 y5 y6, σ = [some (.ref a), some (.ref b), some (.ref c), some (.ref p), y4, y5, y6] ∧ Same H H' ∧ H' p = some (.lst (iv (endsZ s.wins ((s.bouts.zip o).take i)))))
      ⟨none, none, none, rfl, s1, upd_same⟩ (fun i σ H' ⟨_, _, _, _, s2, _⟩ => ⟨s2.seq (SqL.of hb.lst), s2.seq (SqL.of hc)⟩) ?_ ?_
    · rintro i x y T σ H1 hx hy ⟨y4, y5, y6, rfl, s2, hp⟩ nT
      obtain ⟨t, pr, hpr, rfl, ht⟩ := (hb.same s2).get hx
      obtain ⟨n, hn, rfl⟩ := iv_of hy
      have s3 : Same H (upd H1 T (.tup [V.ref t, V.int (n : Int)])) := s2.trans (Same.new nT)
      have sT : Same H1 (upd H1 T (.tup [V.ref t, V.int (n : Int)])) := Same.new nT
      have hz : (s.bouts.zip o)[i]? = some (pr, n) := by
        rw [List.getElem?_zip_eq_some]
        exact ⟨hpr, hn⟩
      have hw : Sj10.winner pr n < s.wins.length := winner_lt ⟨(g.pr pr (List.mem_of_getElem? hpr)).1, (g.pr pr (List.mem_of_getElem? hpr)).2.1⟩
      have hm := endsZ_more (ws := s.wins) hz
      have hl : (endsZ s.wins ((s.bouts.zip o).take i)).length = s.wins.length := endsZ_length _ _
      generalize hee : endsZ s.wins ((s.bouts.zip o).take i) = ee at hp hm hl
      have hw' : Sj10.winner pr n < ee.length := by rw [hl]; exact hw
      obtain ⟨v, hv⟩ := get_of_lt hw'
      refine ⟨T, [V.ref t, V.int (n : Int)], rfl, SqT.of upd_same, rfl, _, _, rfl, _, _, rfl, rfl, ?_⟩
      have go : ∀ m : Nat, m = Sj10.winner pr n → (tAugS (tVar 3) (tVar 6) (tC (V.int 1)) (rGetN K) (ipI fun i j => i + j) rSetL) { nx := fun σ' H' => ∃ y4 y5 y6, σ' = [some (.ref a), some (.ref b), some (.ref c), some (.ref p), y4, y5, y6] ∧ Same H H' ∧ H' p = some (.lst (iv (endsZ s.wins ((s.bouts.zip o).take (i + 1))))), rt := Q }
          [some (.ref a), some (.ref b), some (.ref c), some (.ref p), some (V.ref t), some (V.int (n : Int)), some (.int (m : Int))] (upd H1 T (.tup [V.ref t, V.int (n : Int)])) := by
        rintro m rfl
        refine ⟨_, rfl, _, rfl, p, _, _, Sj10.winner pr n, rfl, rfl, SqL.of (sT _ _ hp), iv_get hv, (v : Int), 1, rfl, rfl, p, _, (Sj10.winner pr n : Int), Sj10.winner pr n, rfl, rfl, sT _ _ hp, place_of (by rw [iv_length]; exact hw'), ?_⟩
        refine ⟨_, _, _, rfl, Same.mut s3 np, ?_⟩
        rw [upd_same, hm]
        have e1 : (V.int ((v : Int) + 1)) = V.int ((v + 1 : Nat) : Int) := rfl
        rw [e1, iv_set]
        unfold bump
        rw [List.getD, hv]
        rfl
      refine ⟨_, rfl, rfl, _, rfl, ite2 (fun e => ?_) (fun e => ?_)⟩
      · have e' : n = 1 := by
          have := V.int.inj (of_decide_eq_true e)
          omega
        refine ⟨_, rfl, t, _, 0, _, rfl, rfl, SqT.of (sT _ _ ht), atI_nat (j := 0) rfl, ?_⟩
        exact go pr.1 (by unfold Sj10.winner; rw [if_pos e'])
      · have e' : ¬ n = 1 := fun z => e (decide_eq_true (by rw [z]; rfl))
        refine ⟨_, rfl, t, _, 1, _, rfl, rfl, SqT.of (sT _ _ ht), atI_nat (j := 1) rfl, ?_⟩
        exact go pr.2 (by unfold Sj10.winner; rw [if_neg e'])
    · rintro σ H1 ⟨y4, y5, y6, rfl, s2, hp⟩
      rw [List.length_map, hb.len, List.take_of_length_le (by rw [List.length_zip]; omega)] at hp
      exact ⟨_, rfl, q H1 p s2 np hp⟩
/-! ### how_many_first, is_first -/
theorem ni_mem {l : List Nat} {m : Int} (h : m ∈ ni l) : ∃ n : Nat, m = (n : Int) ∧ n ∈ l := by
  obtain ⟨n, hn, rfl⟩ := List.mem_map.mp h
  exact ⟨n, rfl, hn⟩
theorem ni_count (l : List Nat) (m : Nat) : (ni l).count (m : Int) = l.count m := by
  unfold ni
  induction l with
  | nil => rfl
  | cons x l ih =>
    rw [List.map_cons, List.count_cons, List.count_cons, ih]
    by_cases e : x = m
    · subst e
      simp
    · rw [if_neg (fun z => e (by have := eq_of_beq z; omega)), if_neg (fun z => e (by have := eq_of_beq z; omega))]
theorem top_of {l : List Nat} {m : Nat} (h1 : m ∈ l) (h2 : ∀ y, y ∈ ni l → y ≤ (m : Int)) : Top l m := ⟨h1, fun x hx => by
  have := h2 (x : Int) (List.mem_map.mpr ⟨x, hx, rfl⟩)
  omega⟩
def spHow : Sp := fun vs H Q _ => ∃ (a : Addr) (s : Sj10.Standing) (o : List Nat), vs = [.ref a] ∧ H a = some (.lst (iv (endsL s o))) ∧ Good s ∧ ∀ H', Same H H' → Q (.int (firsts s o : Nat)) H'
theorem ok_how {f : Addr} {fd : FuncData} {k : Nat} (F : Fun K "how_many_first" "how_many_first" sHow f fd) (mM : mg "max" = none) : FnOk P w K mg base CX0 (k + 1) f fd ["ends"] spHow := by
  refine F.ok scHow (fun vs H Q E h => ?_) (fun cdv A outer s H vs Q E hr h => ?_)
  · obtain ⟨a, s, o, rfl, _⟩ := h
    rfl
  · obtain ⟨a, s, o, rfl, ha, g, q⟩ := h
    refine ⟨_, pss_one (ps_ret (pe_bm PySem.F.plainAttrs_list PySem.F.slot_list_count PySem.F.type_list_count mt_lcount (pv 0)
      (pa_cons (pe_callBK (cr_maxDf rfl (hu_of hr)) (by rfl) mM (by decide +kernel) (pa_cons (pv 0) pa_nil) (pk_cons pe_int pk_nil)) pa_nil))), ?_⟩
    refine ⟨.ref a, rfl, .inl ⟨rfl, _, SqL.of ha⟩, .ref a, rfl, a, ni (endsL s o), 0, rfl, rfl, SqL.of ha, fun e => ?_, fun m hm hle => ?_⟩
    · refine ⟨a, ni (endsL s o), 0, rfl, rfl, SqL.of ha, ?_⟩
      have hn : s.count = 0 := by
        have := congrArg List.length e
        rw [List.length_map, endsL_length] at this
        exact this
      have := q _ (Same.refl H)
      rw [firsts_nil hn] at this
      rw [e]
      exact this
    · obtain ⟨n, rfl, hn⟩ := ni_mem hm
      refine ⟨a, ni (endsL s o), (n : Int), rfl, rfl, SqL.of ha, ?_⟩
      rw [ni_count, count_top g (top_of hn hle)]
      exact q _ (Same.refl H)
def spIsFirst : Sp := fun vs H Q _ => ∃ (a : Addr) (s : Sj10.Standing) (o : List Nat) (i : Nat), vs = [.ref a, .int (i : Int)] ∧ H a = some (.lst (iv (endsL s o))) ∧ Good s ∧ i < s.count ∧ ∀ H', Same H H' → Q (.bl (s.first o i)) H'
theorem ok_isFirst {f : Addr} {fd : FuncData} {k : Nat} (F : Fun K "is_first" "is_first" sIsFirst f fd) (mM : mg "max" = none) : FnOk P w K mg base CX0 (k + 1) f fd ["ends", "who"] spIsFirst := by
  refine F.ok scIsFirst (fun vs H Q E h => ?_) (fun cdv A outer s H vs Q E hr h => ?_)
  · obtain ⟨a, s, o, i, rfl, _⟩ := h
    rfl
  · obtain ⟨a, s, o, i, rfl, ha, g, hi, q⟩ := h
    refine ⟨_, pss_one (ps_ret (pe_cmpR op_eq (pe_ix ix_list (pv 0) (pv 1) (fun _ _ => rfl)) (pe_callB (cr_max rfl) (by rfl) mM (by decide +kernel) (pa_cons (pv 0) pa_nil)) (nomark _))), ?_⟩
    refine ⟨.ref a, rfl, _, rfl, a, _, _, _, rfl, rfl, SqL.of ha, atI_nat (iv_get (endsL_get g o i hi)), .ref a, rfl, a, ni (endsL s o), rfl, SqL.of ha, ?_, fun m hm hle => ?_⟩
    · rw [List.length_map, endsL_length]
      omega
    · obtain ⟨n, rfl, hn⟩ := ni_mem hm
      refine ⟨rfl, ?_⟩
      have e : decide (V.int ((s.ends o i : Nat) : Int) = V.int ((n : Nat) : Int)) = s.first o i := by
        rw [first_top g hi (top_of hn hle), Bool.eq_iff_iff, decide_eq_true_iff, decide_eq_true_iff]
        constructor
        · intro z
          have := V.int.inj z
          omega
        · intro z
          rw [z]
      rw [e]
      exact q _ (Same.refl H)
end
end SF
namespace SF
open PySem PySem.Spec PyProof.Rows L2
abbrev sAll : Stmt := top 5
abbrev sEarliest : Stmt := top 6
abbrev sOdds : Stmt := top 7
abbrev sMost : Stmt := top 8
theorem scAll : FnScope ["bouts", "outcomes", "behind", "outcome"] ["bouts"] (defScope sAll) := ⟨rfl, rfl, rfl, by decide +kernel, rfl, by decide +kernel, by decide +kernel⟩
theorem scEarliest : FnScope ["wins", "bouts", "who", "outcome"] ["wins", "bouts", "who"] (defScope sEarliest) := ⟨rfl, rfl, rfl, by decide +kernel, rfl, by decide +kernel, by decide +kernel⟩
theorem scOdds : FnScope ["wins", "bouts", "who", "outcomes", "alone", "together", "outcome", "ends"] ["wins", "bouts", "who"] (defScope sOdds) := ⟨rfl, rfl, rfl, by decide +kernel, rfl, by decide +kernel, by decide +kernel⟩
theorem scMost : FnScope ["wins", "bouts", "who", "most", "outcome", "ends", "won"] ["wins", "bouts", "who"] (defScope sMost) := ⟨rfl, rfl, rfl, by decide +kernel, rfl, by decide +kernel, by decide +kernel⟩
/-! ### lists of lists -/
theorem ListsAt.push {H : Hp} {D v : Addr} {ts : List Addr} {ls : List (List Nat)} {l : List Nat} (h : ListsAt H D ts ls) (hD : D ∉ ts) (hv : H v = some (.lst (iv l))) (hn : v ≠ D) :
    ListsAt (upd H D (.lst (ts.map V.ref ++ [V.ref v]))) D (ts ++ [v]) (ls ++ [l]) := by
  refine ⟨?_, ?_, fun i m hm => ?_⟩
  · rw [upd_same, List.map_append]
    rfl
  · rw [List.length_append, List.length_append, h.len]
    rfl
  · by_cases c : i < ls.length
    · rw [List.getElem?_append_left c] at hm
      obtain ⟨t, h1, h2⟩ := h.at_ i m hm
      refine ⟨t, by rw [List.getElem?_append_left (by rw [h.len]; exact c)]; exact h1, ?_⟩
      rw [upd_ne (fun e => hD (by rw [← e]; exact List.mem_of_getElem? h1))]
      exact h2
    · have hi := lt_of_get hm
      rw [List.length_append] at hi
      have hi : i < ls.length + 1 := hi
      have e : i = ls.length := by omega
      subst e
      rw [List.getElem?_append_right (Nat.le_refl _), Nat.sub_self] at hm
      have em : l = m := Option.some.inj hm
      subst em
      refine ⟨v, ?_, ?_⟩
      · rw [← h.len, List.getElem?_append_right (Nat.le_refl _), Nat.sub_self]
        rfl
      · rw [upd_ne hn]
        exact hv
theorem ListsAt.cat {H : Hp} {a b p : Addr} {ts us : List Addr} {ls ms : List (List Nat)} (h : ListsAt H a ts ls) (h' : ListsAt H b us ms) (np : H p = none) :
    ListsAt (upd H p (.lst (ts.map V.ref ++ us.map V.ref))) p (ts ++ us) (ls ++ ms) := by
  have s : Same H (upd H p (.lst (ts.map V.ref ++ us.map V.ref))) := Same.new np
  refine ⟨?_, ?_, fun i m hm => ?_⟩
  · rw [upd_same, List.map_append]
  · rw [List.length_append, List.length_append, h.len, h'.len]
  · by_cases c : i < ls.length
    · rw [List.getElem?_append_left c] at hm
      obtain ⟨t, h1, h2⟩ := h.at_ i m hm
      exact ⟨t, by rw [List.getElem?_append_left (by rw [h.len]; exact c)]; exact h1, s _ _ h2⟩
    · rw [List.getElem?_append_right (by omega)] at hm
      obtain ⟨t, h1, h2⟩ := h'.at_ _ m hm
      exact ⟨t, by rw [List.getElem?_append_right (by rw [h.len]; omega), h.len]; exact h1, s _ _ h2⟩
theorem gName_go {i : Nat} {v : V} {σ : L2.St} {H : Hp} {Q : L2.St → Hp → Prop} (h : Q (σ.set i (some v)) H) : gName i v σ H Q := h
theorem tAsg_go {te : TE} {g : TG} {D : Ends} {σ : L2.St} {H : Hp} (h : te σ H fun x H1 => g x σ H1 D.nx) : tAsg te g D σ H := h
theorem tOp_go {r : R2} {ta tb : TE} {σ : L2.St} {H : Hp} {Q : VK} (h : ta σ H fun x H1 => tb σ H1 fun y H2 => r x y H2 Q) : tOp r ta tb σ H Q := h
theorem tSeq_go {t u : TS} {D : Ends} {σ : L2.St} {H : Hp} (h : t { D with nx := u D } σ H) : tSeq t u D σ H := h
theorem tRet_go {te : TE} {D : Ends} {σ : L2.St} {H : Hp} (h : te σ H D.rt) : tRet te D σ H := h
theorem tYes_go {σ : L2.St} {H : Hp} {A B : Hp → Prop} (h : A H) : tYes σ H fun b H3 => if b = true then A H3 else B H3 := by
  show (if true = true then A H else B H)
  rw [if_pos rfl]
  exact h
section
variable {P : Program} {w : World} {K : PySem.W.Frag} {mg : Str → Option Value} {base : Heap}
/-- [[z] + l for l in ls] -/
theorem lc_pre {z : Nat} {p : Addr} {ts : List Addr} {ls : List (List Nat)} {σ : L2.St} {H : Hp} {Q : VK} {a c d : Option V} (hσ : σ = [a, some (.ref p), c, d]) (hL : ListsAt H p ts ls) (h1 : ls.length ≤ 1000) (h2 : ∀ l ∈ ls, l.length ≤ 1000)
    (hQ : ∀ D H' us, H D = none → Same H H' → ListsAt H' D us (ls.map fun l => z :: l) → Q (.ref D) H') :
    tLc (iList K (tVar 1)) (gName 3) tYes (tOp rCat (tLst (tCons (tC (.int (z : Int))) tNil)) (tVar 3)) [3] σ H Q := by
  subst hσ
  refine ⟨.ref p, rfl, p, rfl, ⟨_, SqL.of hL.lst⟩, fun D nD => ?_⟩
  refine lc_list (K := K) (a := p) (xs := ts.map V.ref) (fun i H' => Same H H' ∧ ∃ us, ListsAt H' D us ((ls.take i).map fun l => z :: l) ∧ D ∉ us) ⟨Same.new nD, [], ⟨upd_same, rfl, fun i l hl => by simp at hl⟩, by simp⟩ (fun i H' _ ⟨s1, _⟩ => s1.seq (SqL.of hL.lst)) ?_ ?_
  · rintro i x H1 hx ⟨s1, us, hU, hD⟩
    obtain ⟨t, l, hl, rfl, ht⟩ := (hL.same s1).get hx
    have hll := h2 l (List.mem_of_getElem? hl)
    have hi := lt_of_get hl
    refine ⟨rfl, tYes_go ?_⟩
    refine ⟨(by show 1 ≤ sizeLine; decide), fun u nu => ⟨.ref t, rfl, u, t, [.int (z : Int)], iv l, rfl, rfl, upd_same, Same.new nu _ _ ht, ?_, fun v nv => ?_⟩⟩
    · rw [iv_length]
      show 1 + l.length ≤ sizeLine
      exact szle (by omega)
    · have s2 : Same H1 (upd (upd H1 u (.lst [V.int (z : Int)])) v (.lst ([V.int (z : Int)] ++ iv l))) := L2.Same.trans (Same.new nu) (Same.new nv)
      have hvD : v ≠ D := fun e => by
        have := (Same.new (o := .lst [V.int (z : Int)]) nu) _ _ hU.lst
        rw [← e, nv] at this
        cases this
      have hp := (hU.same s2).push (l := z :: l) hD (v := v) upd_same hvD
      refine ⟨us.map V.ref, s2 _ _ hU.lst, ?_, Same.mut (s1.trans s2) nD, us ++ [v], ?_, ?_⟩
      · rw [List.length_map, hU.len, List.length_map, List.length_take]
        exact sz (by omega)
      · rw [take_more hl, List.map_append]
        exact hp
      · rw [List.mem_append, List.mem_singleton]
        rintro (e | e)
        · exact hD e
        · exact hvD e.symm
  · rintro H1 ⟨s1, us, hU, _⟩
    rw [List.length_map, hL.len, List.take_length] at hU
    exact hQ D H1 us nD s1 hU
/-! ### all_outcomes -/
def spAll : Sp := fun vs H Q _ => ∃ (b : Addr) (ys : List V), vs = [.ref b] ∧ H b = some (.lst ys) ∧ ys.length ≤ 9 ∧ ∀ H' p ts, Same H H' → H p = none → ListsAt H' p ts (Sj10.rows ys.length) → Q (.ref p) H'
theorem pow9 {i : Nat} (h : i ≤ 9) : 2 ^ i ≤ 512 := by
  have := Nat.pow_le_pow_right (n := 2) (by omega) h
  have e : (2 : Nat) ^ 9 = 512 := by decide
  omega
theorem ok_all {f : Addr} {fd : FuncData} {k : Nat} (F : Fun K "all_outcomes" "all_outcomes" sAll f fd) (ml : mg "len" = none) (mR : mg "range" = none) : FnOk P w K mg base CX0 (k + 1) f fd ["bouts"] spAll := by
  refine F.ok scAll (fun vs H Q E h => ?_) (fun cdv A outer s H vs Q E hr h => ?_)
  · obtain ⟨b, ys, rfl, _⟩ := h
    rfl
  · obtain ⟨b, ys, rfl, hb, h9, q⟩ := h
    refine ⟨_, pss_cons (ps_set (i := 1) scAll.nd rfl (.inl rfl) (pe_lst (pa_cons (pe_lst pa_nil) pa_nil)))
      (pss_cons (ps_for PassesOwn.never rfl (pi_range1 (by rfl) mR (pa_cons (pe_callB call_len_seq (by rfl) ml PySem.boot_len (pa_cons (pv 0) pa_nil)) pa_nil)) (pg_name (i := 2) scAll.nd rfl (.inl rfl))
        (pss_one (ps_set (i := 1) scAll.nd rfl (.inl rfl) (pe_op op_cat
          (pe_lc (own := [("outcome", 3)]) (g := gName 3) (tt := tYes) rfl scAll.nd (pi_list (pv 1)) (blkOk_by (N := ["bouts", "outcomes", "behind", "outcome"]) (sc := defScope sAll) (by decide +kernel))
            (fun _ _ _ _ _ => pg_name (i := 3) scAll.nd rfl (Or.inl rfl)) (fun _ _ _ _ _ => pts_nil) (fun _ _ _ _ _ => pe_op op_cat (pe_lst (pa_cons pe_int pa_nil)) (pv 3)))
          (pe_lc (own := [("outcome", 3)]) (g := gName 3) (tt := tYes) rfl scAll.nd (pi_list (pv 1)) (blkOk_by (N := ["bouts", "outcomes", "behind", "outcome"]) (sc := defScope sAll) (by decide +kernel))
            (fun _ _ _ _ _ => pg_name (i := 3) scAll.nd rfl (Or.inl rfl)) (fun _ _ _ _ _ => pts_nil) (fun _ _ _ _ _ => pe_op op_cat (pe_lst (pa_cons pe_int pa_nil)) (pv 3)))))))
      (pss_one (ps_ret (pv 1)))), ?_⟩
    refine ⟨Nat.zero_le _, fun e ne => ⟨(by show 1 ≤ sizeLine; decide), fun p np => ?_⟩⟩
    have s1 : Same H (upd (upd H e (.lst [])) p (.lst [V.ref e])) := L2.Same.trans (Same.new ne) (Same.new np)
    have hep : e ≠ p := fun z => by rw [← z, upd_same] at np; cases np
    have np0 : H p = none := (Same.new ne).free np
    refine ⟨.ref b, rfl, b, ys, rfl, .inl (SqL.of (s1 _ _ hb)), (ys.length : Int), rfl, by omega, by omega, ?_⟩
    refine for_range (lo := 0) (n := ys.length) (fun i σ H' => ∃ v p ts, σ = [some (.ref b), some (.ref p), v, none] ∧ Same H H' ∧ H p = none ∧ ListsAt H' p ts (Sj10.rows i)) ⟨none, p, [e], rfl, s1, np0, ?_⟩ ?_ ?_
    · refine ⟨upd_same, rfl, fun i l hl => ?_⟩
      cases i with
      | zero =>
        have el : ([] : List Nat) = l := Option.some.inj hl
        subst el
        exact ⟨e, rfl, by rw [upd_ne hep]; exact upd_same⟩
      | succ i => simp [Sj10.rows] at hl
    · rintro i σ H1 hi ⟨v, p1, ts, rfl, s2, n1, hL⟩
      have hlen : (Sj10.rows i).length ≤ 1000 := by
        rw [rows_length]
        have := pow9 (show i ≤ 9 by omega)
        omega
      have hl2 : ∀ l ∈ Sj10.rows i, l.length ≤ 1000 := fun l hl => by
        have := (rows_mem hl).1
        omega
      refine gName_go (tAsg_go (tOp_go ?_))
      refine lc_pre (z := 0) rfl hL hlen hl2 fun D0 H2 us nD0 s3 hU => ?_
      refine lc_pre (z := 1) rfl (hL.same s3) hlen hl2 fun D1 H3 ws nD1 s4 hW => ?_
      have hU3 := hU.same s4
      refine ⟨D0, D1, us.map V.ref, ws.map V.ref, rfl, rfl, hU3.lst, hW.lst, ?_, fun p3 n3 => ?_⟩
      · rw [List.length_map, List.length_map, hU.len, hW.len, List.length_map, List.length_map]
        exact szle (by omega)
      · have s5 : Same H H3 := L2.Same.trans s2 (L2.Same.trans s3 s4)
        exact ⟨_, p3, us ++ ws, rfl, L2.Same.trans s5 (Same.new n3), L2.Same.free s5 n3, hU3.cat hW n3⟩
    · rintro σ H1 ⟨v, p1, ts, rfl, s2, n1, hL⟩
      exact ⟨_, rfl, q H1 p1 ts s2 n1 hL⟩
end
end SF
namespace SF
open PySem PySem.Spec PyProof.Rows L2
/-- a def of the text by its name: where it stands, and its promise -/
structure Def (P : Program) (w : World) (K : PySem.W.Frag) (mg : Str → Option Value) (base : Heap) (k : Nat) (x : Str) (ps : List Str) (sp : Sp) : Prop where
  ex : ∃ (f : Addr) (fd : FuncData), FnOk P w K mg base CX0 k f fd ps sp ∧ mg x = some (.ref f) ∧ PySem.W.keepIn K (.ref f) = true ∧ Binds K fd ps []
theorem Def.mono {P : Program} {w : World} {K : PySem.W.Frag} {mg : Str → Option Value} {base : Heap} {j k : Nat} {x : Str} {ps : List Str} {sp : Sp} (D : Def P w K mg base j x ps sp) (h : j ≤ k) : Def P w K mg base k x ps sp := by
  obtain ⟨f, fd, G, g, kp, b⟩ := D.ex
  exact ⟨f, fd, G.mono h, g, kp, b⟩
section
variable {P : Program} {w : World} {K : PySem.W.Frag} {mg : Str → Option Value} {base : Heap}
/-! ### earliest_outcome -/
theorem find_at {α : Type} {p : α → Bool} : ∀ {l : List α} {i : Nat} {x : α}, l[i]? = some x → (l.take i).find? p = none → p x = true → l.find? p = some x
  | [], i, x, h, _, _ => by simp at h
  | a :: l, 0, x, h, _, hp => by
    have e : a = x := Option.some.inj h
    subst e
    rw [List.find?_cons, hp]
  | a :: l, i + 1, x, h, hn, hp => by
    have h' : l[i]? = some x := h
    rw [List.take_succ_cons, List.find?_cons] at hn
    rw [List.find?_cons]
    cases e : p a with
    | true => rw [e] at hn; cases hn
    | false =>
      rw [e] at hn
      exact find_at h' hn hp
theorem find_more {α : Type} {p : α → Bool} {l : List α} {i : Nat} {x : α} (h : l[i]? = some x) (hn : (l.take i).find? p = none) (hp : p x = false) : (l.take (i + 1)).find? p = none := by
  rw [take_more h, List.find?_append, hn, List.find?_cons, hp]
  rfl
/-- what is asked by a question about one wrestler of a standing: wins, bouts, who -/
structure Ask (H : Hp) (a b : Addr) (ts : List Addr) (s : Sj10.Standing) (i : Nat) : Prop where
  wins : H a = some (.lst (iv s.wins))
  bouts : PairsAt H b ts s.bouts
  good : Good s
  lt : i < s.count
theorem Ask.same {H H' : Hp} {a b : Addr} {ts : List Addr} {s : Sj10.Standing} {i : Nat} (h : Ask H a b ts s i) (e : Same H H') : Ask H' a b ts s i := ⟨e _ _ h.wins, h.bouts.same e, h.good, h.lt⟩
theorem Ask.len {H : Hp} {a b : Addr} {ts : List Addr} {s : Sj10.Standing} {i : Nat} (h : Ask H a b ts s i) : (ts.map V.ref).length = s.bouts.length := by rw [List.length_map, h.bouts.len]
def spEarliest : Sp := fun vs H Q _ => ∃ (a b : Addr) (ts : List Addr) (s : Sj10.Standing) (i : Nat), vs = [.ref a, .ref b, .int (i : Int)] ∧ Ask H a b ts s i ∧
  (∀ o, s.can i = some o → o.length = s.bouts.length → ∀ H' p, Same H H' → H' p = some (.lst (iv o)) → Q (.ref p) H') ∧ (s.can i = none → ∀ H', Same H H' → Q .non H')
theorem ok_earliest {f : Addr} {fd : FuncData} {k : Nat} (F : Fun K "earliest_outcome" "earliest_outcome" sEarliest f fd) (dA : Def P w K mg base k "all_outcomes" ["bouts"] spAll) (dE : Def P w K mg base k "wins_in_the_end" ["wins", "bouts", "outcome"] spEnds)
    (dF : Def P w K mg base k "is_first" ["ends", "who"] spIsFirst) : FnOk P w K mg base CX0 (k + 1) f fd ["wins", "bouts", "who"] spEarliest := by
  obtain ⟨fA, fdA, GA, gA, kA, bA⟩ := dA.ex
  obtain ⟨fE, fdE, GE, gE, kE, bE⟩ := dE.ex
  obtain ⟨fF, fdF, GF, gF, kF, bF⟩ := dF.ex
  refine F.ok scEarliest (fun vs H Q E h => ?_) (fun cdv A outer s H vs Q E hr h => ?_)
  · obtain ⟨a, b, ts, s, i, rfl, _⟩ := h
    rfl
  · obtain ⟨a, b, ts, s, who, rfl, ask, q1, q0⟩ := h
    refine ⟨_, pss_cons (ps_for PassesOwn.never rfl (pi_list (pe_call GA hr (by rfl) gA kA bA .nil pass0 (pa_cons (pv 1) pa_nil))) (pg_name (i := 3) scEarliest.nd rfl (.inl rfl))
        (pss_one (ps_if (pt_val (pe_call GF hr (by rfl) gF kF bF .nil pass0 (pa_cons (pe_call GE hr (by rfl) gE kE bE .nil pass0 (pa_cons (pv 0) (pa_cons (pv 1) (pa_cons (pv 3) pa_nil)))) (pa_cons (pv 2) pa_nil))))
          (pss_one (ps_ret (pv 3))) pss_nil)))
      (pss_one (ps_ret pe_non)), ?_⟩
    refine ⟨.ref b, rfl, b, ts.map V.ref, rfl, ask.bouts.lst, by rw [ask.len]; exact ask.good.b9, fun H1 p us s1 np hL => ?_⟩
    rw [ask.len] at hL
    refine ⟨p, rfl, ⟨_, SqL.of hL.lst⟩, for_list (K := K) (a := p) (xs := us.map V.ref) (fun i σ H' => ∃ v, σ = [some (.ref a), some (.ref b), some (.int (who : Int)), v] ∧ Same H1 H' ∧ (s.all_.take i).find? (fun o => s.first o who) = none)
      ⟨none, rfl, L2.Same.refl _, rfl⟩ (fun i σ H' _ ⟨_, _, s2, _⟩ => s2.seq (SqL.of hL.lst)) ?_ ?_⟩
    · rintro i y σ H2 hy ⟨v, rfl, s2, hn⟩
      obtain ⟨t, o, ho, rfl, ht⟩ := (hL.same s2).get hy
      have s02 : Same H H2 := L2.Same.trans s1 s2
      have ask2 := ask.same s02
      have hrow := rows_mem (List.mem_of_getElem? ho)
      refine ⟨.ref a, rfl, .ref b, rfl, .ref t, rfl, a, b, t, ts, s, o, rfl, ask2.wins, ask2.bouts, ht, hrow.1, ask.good, fun H3 e s3 ne he => ?_⟩
      refine ⟨.int (who : Int), rfl, e, s, o, who, rfl, he, ask.good, ask.lt, fun H4 s4 => ⟨_, rfl, ?_⟩⟩
      have s24 : Same H2 H4 := L2.Same.trans s3 s4
      cases c : s.first o who with
      | true => exact if_true_of rfl ⟨_, rfl, q1 o (find_at ho hn c) hrow.1 H4 t (L2.Same.trans s02 s24) (s24 _ _ ht)⟩
      | false => exact if_false_of rfl ⟨_, rfl, L2.Same.trans s2 s24, find_more ho hn c⟩
    · rintro σ H2 ⟨v, rfl, s2, hn⟩
      rw [List.length_map, hL.len, show Sj10.rows s.bouts.length = s.all_ from rfl, List.take_length] at hn
      exact q0 hn H2 (L2.Same.trans s1 s2)
/-! ### odds_of -/
def aloneN (s : Sj10.Standing) (i : Nat) (l : List (List Nat)) : Nat := (l.filter fun o => s.alone o i).length
def togeN (s : Sj10.Standing) (i : Nat) (l : List (List Nat)) : Nat := (l.filter fun o => s.first o i && !s.alone o i).length
def spOdds : Sp := fun vs H Q _ => ∃ (a b : Addr) (ts : List Addr) (s : Sj10.Standing) (i : Nat), vs = [.ref a, .ref b, .int (i : Int)] ∧ Ask H a b ts s i ∧
  ∀ H' p, Same H H' → H p = none → H' p = some (.lst (iv [aloneN s i s.all_, togeN s i s.all_, 2 ^ s.bouts.length])) → Q (.ref p) H'
theorem ok_odds {f : Addr} {fd : FuncData} {k : Nat} (F : Fun K "odds_of" "odds_of" sOdds f fd) (dA : Def P w K mg base k "all_outcomes" ["bouts"] spAll) (dE : Def P w K mg base k "wins_in_the_end" ["wins", "bouts", "outcome"] spEnds)
    (dF : Def P w K mg base k "is_first" ["ends", "who"] spIsFirst) (dH : Def P w K mg base k "how_many_first" ["ends"] spHow) (ml : mg "len" = none) : FnOk P w K mg base CX0 (k + 1) f fd ["wins", "bouts", "who"] spOdds := by
  obtain ⟨fA, fdA, GA, gA, kA, bA⟩ := dA.ex
  obtain ⟨fE, fdE, GE, gE, kE, bE⟩ := dE.ex
  obtain ⟨fF, fdF, GF, gF, kF, bF⟩ := dF.ex
  obtain ⟨fH, fdH, GH, gH, kH, bH⟩ := dH.ex
  refine F.ok scOdds (fun vs H Q E h => ?_) (fun cdv A outer s H vs Q E hr h => ?_)
  · obtain ⟨a, b, ts, s, i, rfl, _⟩ := h
    rfl
  · obtain ⟨a, b, ts, s, who, rfl, ask, q⟩ := h
    refine ⟨_, pss_cons (ps_set (i := 3) scOdds.nd rfl (.inl rfl) (pe_call GA hr (by rfl) gA kA bA .nil pass0 (pa_cons (pv 1) pa_nil)))
      (pss_cons (ps_set (i := 4) scOdds.nd rfl (.inl rfl) pe_int)
      (pss_cons (ps_set (i := 5) scOdds.nd rfl (.inl rfl) pe_int)
      (pss_cons (ps_for PassesOwn.never rfl (pi_list (pv 3)) (pg_name (i := 6) scOdds.nd rfl (.inl rfl))
        (pss_cons (ps_set (i := 7) scOdds.nd rfl (.inl rfl) (pe_call GE hr (by rfl) gE kE bE .nil pass0 (pa_cons (pv 0) (pa_cons (pv 1) (pa_cons (pv 6) pa_nil)))))
        (pss_one (ps_if (pt_val (pe_call GF hr (by rfl) gF kF bF .nil pass0 (pa_cons (pv 7) (pa_cons (pv 2) pa_nil))))
          (pss_one (ps_if (pt_cmpR op_eq (pe_call GH hr (by rfl) gH kH bH .nil pass0 (pa_cons (pv 7) pa_nil)) pe_int (nomark _))
            (pss_one (ps_aug (i := 4) scOdds.nd rfl (.inl rfl) pe_int ip_add))
            (pss_one (ps_aug (i := 5) scOdds.nd rfl (.inl rfl) pe_int ip_add)))) pss_nil))))
      (pss_one (ps_ret (pe_lst (pa_cons (pv 4) (pa_cons (pv 5) (pa_cons (pe_callB call_len_seq (by rfl) ml PySem.boot_len (pa_cons (pv 3) pa_nil)) pa_nil))))))))), ?_⟩
    refine ⟨.ref b, rfl, b, ts.map V.ref, rfl, ask.bouts.lst, by rw [ask.len]; exact ask.good.b9, fun H1 p us s1 np hL => ?_⟩
    rw [ask.len] at hL
    refine ⟨.ref p, rfl, p, rfl, ⟨_, SqL.of hL.lst⟩, for_list (K := K) (a := p) (xs := us.map V.ref) (fun i σ H' => ∃ v6 v7, σ = [some (.ref a), some (.ref b), some (.int (who : Int)), some (.ref p), some (.int (aloneN s who (s.all_.take i) : Nat)), some (.int (togeN s who (s.all_.take i) : Nat)), v6, v7] ∧ Same H1 H')
      ⟨none, none, rfl, L2.Same.refl _⟩ (fun i σ H' _ ⟨_, _, _, s2⟩ => s2.seq (SqL.of hL.lst)) ?_ ?_⟩
    · rintro i y σ H2 hy ⟨v6, v7, rfl, s2⟩
      obtain ⟨t, o, ho, rfl, ht⟩ := (hL.same s2).get hy
      have s02 : Same H H2 := L2.Same.trans s1 s2
      have ask2 := ask.same s02
      have hrow := rows_mem (List.mem_of_getElem? ho)
      have ho' : s.all_[i]? = some o := ho
      have ea : aloneN s who (s.all_.take (i + 1)) = aloneN s who (s.all_.take i) + (if s.alone o who = true then 1 else 0) := by
        unfold aloneN
        rw [take_more ho', filter_len_snoc]
      have et : togeN s who (s.all_.take (i + 1)) = togeN s who (s.all_.take i) + (if (s.first o who && !s.alone o who) = true then 1 else 0) := by
        unfold togeN
        rw [take_more ho', filter_len_snoc]
      rw [ea, et]
      refine ⟨.ref a, rfl, .ref b, rfl, .ref t, rfl, a, b, t, ts, s, o, rfl, ask2.wins, ask2.bouts, ht, hrow.1, ask.good, fun H3 e s3 ne he => ?_⟩
      refine ⟨.ref e, rfl, .int (who : Int), rfl, e, s, o, who, rfl, he, ask.good, ask.lt, fun H4 s4 => ⟨_, rfl, ?_⟩⟩
      have s24 : Same H2 H4 := L2.Same.trans s3 s4
      cases c : s.first o who with
      | true =>
        refine if_true_of rfl ⟨.ref e, rfl, e, s, o, rfl, s4 _ _ he, ask.good, fun H5 s5 => ⟨rfl, _, rfl, ?_⟩⟩
        have s25 : Same H1 H5 := L2.Same.trans s2 (L2.Same.trans s24 s5)
        by_cases one : firsts s o = 1
        · have al := (alone_one ask.lt c).mpr one
          refine if_true_of (decide_eq_true (by rw [one]; rfl)) ⟨_, rfl, _, _, rfl, rfl, some (V.ref t), some (V.ref e), ?_, s25⟩
          rw [al]
          rfl
        · have al : s.alone o who = false := by
            cases z : s.alone o who with
            | true => exact absurd ((alone_one ask.lt c).mp z) one
            | false => rfl
          refine if_false_of (decide_eq_false fun z => one (by have := V.int.inj z; omega)) ⟨_, rfl, _, _, rfl, rfl, some (V.ref t), some (V.ref e), ?_, s25⟩
          rw [al]
          rfl
      | false =>
        have al : s.alone o who = false := by
          cases z : s.alone o who with
          | true =>
            have := alone_first z
            rw [c] at this
            cases this
          | false => rfl
        refine if_false_of rfl ⟨some (V.ref t), some (V.ref e), ?_, L2.Same.trans s2 s24⟩
        rw [al]
        rfl
    · rintro σ H2 ⟨v6, v7, rfl, s2⟩
      rw [List.length_map, hL.len, show Sj10.rows s.bouts.length = s.all_ from rfl, List.take_length]
      refine ⟨_, rfl, _, rfl, .ref p, rfl, p, us.map V.ref, rfl, .inl (s2.seq (SqL.of hL.lst)), (by show 3 ≤ sizeLine; decide), fun r nr => ?_⟩
      have s02 : Same H H2 := L2.Same.trans s1 s2
      refine q _ r (L2.Same.trans s02 (Same.new nr)) (L2.Same.free s02 nr) ?_
      rw [upd_same, List.length_map, hL.len, rows_length]
      rfl
/-! ### most_won_in_vain -/
def mv : Option Nat → V
  | none => .non
  | some v => .int (v : Int)
def spMost : Sp := fun vs H Q _ => ∃ (a b : Addr) (ts : List Addr) (s : Sj10.Standing) (i : Nat), vs = [.ref a, .ref b, .int (i : Int)] ∧ Ask H a b ts s i ∧ ∀ H', Same H H' → Q (mv (vains s i s.all_)) H'
theorem ok_most {f : Addr} {fd : FuncData} {k : Nat} (F : Fun K "most_won_in_vain" "most_won_in_vain" sMost f fd) (dA : Def P w K mg base k "all_outcomes" ["bouts"] spAll) (dE : Def P w K mg base k "wins_in_the_end" ["wins", "bouts", "outcome"] spEnds)
    (dF : Def P w K mg base k "is_first" ["ends", "who"] spIsFirst) : FnOk P w K mg base CX0 (k + 1) f fd ["wins", "bouts", "who"] spMost := by
  obtain ⟨fA, fdA, GA, gA, kA, bA⟩ := dA.ex
  obtain ⟨fE, fdE, GE, gE, kE, bE⟩ := dE.ex
  obtain ⟨fF, fdF, GF, gF, kF, bF⟩ := dF.ex
  refine F.ok scMost (fun vs H Q E h => ?_) (fun cdv A outer s H vs Q E hr h => ?_)
  · obtain ⟨a, b, ts, s, i, rfl, _⟩ := h
    rfl
  · obtain ⟨a, b, ts, s, who, rfl, ask, q⟩ := h
    refine ⟨_, pss_cons (ps_set (i := 3) scMost.nd rfl (.inl rfl) pe_non)
      (pss_cons (ps_for PassesOwn.never rfl (pi_list (pe_call GA hr (by rfl) gA kA bA .nil pass0 (pa_cons (pv 1) pa_nil))) (pg_name (i := 4) scMost.nd rfl (.inl rfl))
        (pss_cons (ps_set (i := 5) scMost.nd rfl (.inl rfl) (pe_call GE hr (by rfl) gE kE bE .nil pass0 (pa_cons (pv 0) (pa_cons (pv 1) (pa_cons (pv 4) pa_nil)))))
        (pss_cons (ps_set (i := 6) scMost.nd rfl (.inl rfl) (pe_op op_sub (pe_ix ix_list (pv 5) (pv 2) (fun _ _ => rfl)) (pe_ix ix_list (pv 0) (pv 2) (fun _ _ => rfl))))
        (pss_one (ps_if (PW.pt (pw_and (pt_not (pt_val (pe_call GF hr (by rfl) gF kF bF .nil pass0 (pa_cons (pv 5) (pa_cons (pv 2) pa_nil)))))
            (pw_and1 (PW.pt (pw_or (pt_cmpR op_isN (pv 3) pe_non (nomark _)) (pw_or1 (pt_cmpR op_gt (pv 6) (pv 3) (nomark _))))))))
          (pss_one (ps_set (i := 3) scMost.nd rfl (.inl rfl) (pv 6))) pss_nil)))))
      (pss_one (ps_ret (pv 3)))), ?_⟩
    refine ⟨.ref b, rfl, b, ts.map V.ref, rfl, ask.bouts.lst, by rw [ask.len]; exact ask.good.b9, fun H1 p us s1 np hL => ?_⟩
    rw [ask.len] at hL
    refine ⟨p, rfl, ⟨_, SqL.of hL.lst⟩, for_list (K := K) (a := p) (xs := us.map V.ref) (fun i σ H' => ∃ v4 v5 v6, σ = [some (.ref a), some (.ref b), some (.int (who : Int)), some (mv (vains s who (s.all_.take i))), v4, v5, v6] ∧ Same H1 H')
      ⟨none, none, none, rfl, L2.Same.refl _⟩ (fun i σ H' _ ⟨_, _, _, _, s2⟩ => s2.seq (SqL.of hL.lst)) ?_ ?_⟩
    · rintro i y σ H2 hy ⟨v4, v5, v6, rfl, s2⟩
      obtain ⟨t, o, ho, rfl, ht⟩ := (hL.same s2).get hy
      have s02 : Same H H2 := L2.Same.trans s1 s2
      have ask2 := ask.same s02
      have hrow := rows_mem (List.mem_of_getElem? ho)
      have ho' : s.all_[i]? = some o := ho
      rw [take_more ho', vains_snoc]
      generalize vains s who (s.all_.take i) = m
      refine ⟨.ref a, rfl, .ref b, rfl, .ref t, rfl, a, b, t, ts, s, o, rfl, ask2.wins, ask2.bouts, ht, hrow.1, ask.good, fun H3 e s3 ne he => ?_⟩
      have hw : s.wins[who]? = some (s.wins.getD who 0) := by
        rw [List.getD, List.getElem?_eq_getElem (show who < s.wins.length from ask.lt)]
        rfl
      refine ⟨.ref e, rfl, _, rfl, e, _, _, _, rfl, rfl, SqL.of he, atI_nat (iv_get (endsL_get ask.good o who ask.lt)), .ref a, rfl, _, rfl, a, _, _, _, rfl, rfl, SqL.of (s3 _ _ ask2.wins), atI_nat (iv_get hw), _, _, rfl, rfl, ?_⟩
      refine ⟨.ref e, rfl, .int (who : Int), rfl, e, s, o, who, rfl, he, ask.good, ask.lt, fun H4 s4 => ⟨_, rfl, ?_⟩⟩
      have s24 : Same H1 H4 := L2.Same.trans s2 (L2.Same.trans s3 s4)
      have eo : ((s.ends o who : Nat) : Int) - ((s.wins.getD who 0 : Nat) : Int) = ((s.own o who : Nat) : Int) := by
        rw [ends_own]
        omega
      have em : mv (some (s.own o who)) = V.int (((s.ends o who : Nat) : Int) - ((s.wins.getD who 0 : Nat) : Int)) := congrArg V.int eo.symm
      cases c : s.first o who with
      | true =>
        refine if_false_of rfl (if_false_of rfl ⟨some (V.ref t), some (V.ref e), some (V.int (((s.ends o who : Nat) : Int) - ((s.wins.getD who 0 : Nat) : Int))), ?_, s24⟩)
        rw [show vain s who m o = m from if_pos c]
        rfl
      | false =>
        have c' : ¬ s.first o who = true := by rw [c]; exact Bool.false_ne_true
        refine if_true_of rfl ⟨mv m, rfl, rfl, _, rfl, ?_⟩
        cases m with
        | none =>
          refine if_true_of (by rfl) (if_true_of rfl ⟨_, rfl, some (V.ref t), some (V.ref e), some (V.int (((s.ends o who : Nat) : Int) - ((s.wins.getD who 0 : Nat) : Int))), ?_, s24⟩)
          rw [show vain s who none o = some (s.own o who) from if_neg c', em]
          rfl
        | some v =>
          refine if_false_of (by rfl) ⟨_, rfl, _, rfl, _, _, rfl, rfl, _, rfl, ?_⟩
          have ev : vain s who (some v) o = if v < s.own o who then some (s.own o who) else some v := if_neg c'
          by_cases d : v < s.own o who
          · refine if_true_of (decide_eq_true (by omega)) ⟨_, rfl, some (V.ref t), some (V.ref e), some (V.int (((s.ends o who : Nat) : Int) - ((s.wins.getD who 0 : Nat) : Int))), ?_, s24⟩
            rw [ev, if_pos d, em]
            rfl
          · refine if_false_of (decide_eq_false (by omega)) ⟨some (V.ref t), some (V.ref e), some (V.int (((s.ends o who : Nat) : Int) - ((s.wins.getD who 0 : Nat) : Int))), ?_, s24⟩
            rw [ev, if_neg d]
            rfl
    · rintro σ H2 ⟨v4, v5, v6, rfl, s2⟩
      rw [List.length_map, hL.len, show Sj10.rows s.bouts.length = s.all_ from rfl, List.take_length]
      exact ⟨_, rfl, q H2 (L2.Same.trans s1 s2)⟩
end
end SF
namespace SF
open PySem PySem.Spec PyProof.Rows L2
abbrev sLeft : Stmt := top 10
abbrev sCould : Stmt := top 11
abbrev sSets : Stmt := top 12
abbrev sShares : Stmt := top 13
abbrev sStands : Stmt := top 14
abbrev sSet : Stmt := top 15
theorem scLeft : FnScope ["bouts", "who", "pair"] ["bouts", "who"] (defScope sLeft) := ⟨rfl, rfl, rfl, by decide +kernel, rfl, by decide +kernel, by decide +kernel⟩
theorem scCould : FnScope ["wins", "bouts", "who"] ["wins", "bouts", "who"] (defScope sCould) := ⟨rfl, rfl, rfl, by decide +kernel, rfl, by decide +kernel, by decide +kernel⟩
theorem scSets : FnScope ["many", "sets", "who", "members"] ["many"] (defScope sSets) := ⟨rfl, rfl, rfl, by decide +kernel, rfl, by decide +kernel, by decide +kernel⟩
theorem scShares : FnScope ["wins", "bouts", "members", "so_far", "member", "pair"] ["wins", "bouts", "members"] (defScope sShares) := ⟨rfl, rfl, rfl, by decide +kernel, rfl, by decide +kernel, by decide +kernel⟩
theorem scStands : FnScope ["wins", "bouts", "members", "who"] ["wins", "bouts", "members", "who"] (defScope sStands) := ⟨rfl, rfl, rfl, by decide +kernel, rfl, by decide +kernel, by decide +kernel⟩
theorem scSet : FnScope ["wins", "bouts", "who", "sets", "number", "members"] ["wins", "bouts", "who"] (defScope sSet) := ⟨rfl, rfl, rfl, by decide +kernel, rfl, by decide +kernel, by decide +kernel⟩
section
variable {P : Program} {w : World} {K : PySem.W.Frag} {mg : Str → Option Value} {base : Heap}
theorem tCB_go {r : List V → Hp → VK → Prop} {t : TA} {σ : L2.St} {H : Hp} {Q : VK} (h : t σ H fun vs H1 => r vs H1 Q) : tCB r t σ H Q := h
theorem tCons_go {te : TE} {t : TA} {σ : L2.St} {H : Hp} {Q : List V → Hp → Prop} (h : te σ H fun x H1 => t σ H1 fun xs H2 => Q (x :: xs) H2) : tCons te t σ H Q := h
/-- [pair for pair in bouts if ..]: how many -/
theorem lc_pairs {σ : L2.St} {ti j : Nat} {tt : TT} {p : Nat × Nat → Bool} {b : Addr} {ts : List Addr} {bs : List (Nat × Nat)} {H : Hp} {Q : VK} (hσ : σ[ti]? = some (some (.ref b))) (hB : PairsAt H b ts bs) (h9 : bs.length ≤ 1000)
    (ht : ∀ (t : Addr) (pr : Nat × Nat) (H1 : Hp) (R : Bool → Hp → Prop), Same H H1 → pr ∈ bs → H1 t = some (.tup [.int (pr.1 : Int), .int (pr.2 : Int)]) → (∀ H2, Same H1 H2 → R (p pr) H2) → tt ((wipe σ [j]).set j (some (.ref t))) H1 R)
    (hw : ∀ v, wipe ((wipe σ [j]).set j (some v)) [j] = wipe σ [j]) (hj : ∀ v, ((wipe σ [j]).set j (some v))[j]? = some (some v))
    (hQ : ∀ D H' us, Same H H' → H' D = some (.lst us) → us.length = (bs.filter p).length → Q (.ref D) H') :
    tLc (iList K (tVar ti)) (gName j) tt (tVar j) [j] σ H Q := by
  refine ⟨.ref b, hσ, b, rfl, ⟨_, SqL.of hB.lst⟩, fun D nD => ?_⟩
  refine lc_list (K := K) (a := b) (xs := ts.map V.ref) (fun i H' => Same H H' ∧ ∃ us, H' D = some (.lst us) ∧ us.length = ((bs.take i).filter p).length) ⟨Same.new nD, [], upd_same, rfl⟩ (fun i H' _ ⟨s1, _⟩ => s1.seq (SqL.of hB.lst)) ?_ ?_
  · rintro i x H1 hx ⟨s1, us, hU, hl⟩
    obtain ⟨t, pr, hpr, rfl, ht1⟩ := (hB.same s1).get hx
    have hi := lt_of_get hpr
    refine ⟨hw _, ht t pr H1 _ s1 (List.mem_of_getElem? hpr) ht1 fun H2 s2 => ?_⟩
    have em : ((bs.take (i + 1)).filter p).length = ((bs.take i).filter p).length + (if p pr = true then 1 else 0) := by
      rw [take_more hpr, filter_len_snoc]
    have hle : ((bs.take i).filter p).length ≤ 1000 := Nat.le_trans (List.length_filter_le _ _) (by rw [List.length_take]; omega)
    cases c : p pr with
    | true =>
      rw [c] at em
      refine if_true_of rfl ⟨.ref t, hj _, us, s2 _ _ hU, sz (by omega), Same.mut (L2.Same.trans s1 s2) nD, us ++ [.ref t], upd_same, ?_⟩
      rw [List.length_append, hl, em]
      rfl
    | false =>
      rw [c] at em
      refine if_false_of rfl ⟨L2.Same.trans s1 s2, us, s2 _ _ hU, ?_⟩
      rw [hl, em]
      rfl
  · rintro H1 ⟨s1, us, hU, hl⟩
    rw [List.length_map, hB.len, List.take_length] at hl
    exact hQ D H1 us s1 hU hl
/-! ### bouts_left, could_have -/
def spLeft : Sp := fun vs H Q _ => ∃ (b : Addr) (ts : List Addr) (s : Sj10.Standing) (i : Nat), vs = [.ref b, .int (i : Int)] ∧ PairsAt H b ts s.bouts ∧ Good s ∧ ∀ H', Same H H' → Q (.int (s.left i : Nat)) H'
theorem ok_left {f : Addr} {fd : FuncData} {k : Nat} (F : Fun K "bouts_left" "bouts_left" sLeft f fd) (ml : mg "len" = none) : FnOk P w K mg base CX0 (k + 1) f fd ["bouts", "who"] spLeft := by
  refine F.ok scLeft (fun vs H Q E h => ?_) (fun cdv A outer s H vs Q E hr h => ?_)
  · obtain ⟨b, ts, s, i, rfl, _⟩ := h
    rfl
  · obtain ⟨b, ts, s, who, rfl, hB, g, q⟩ := h
    refine ⟨_, pss_one (ps_ret (pe_callB call_len_seq (by rfl) ml PySem.boot_len (pa_cons (pe_lc (own := [("pair", 2)]) (g := gName 2) (tt := tTest (tOp (rIn K false) (tVar 1) (tVar 2))) rfl scLeft.nd (pi_list (pv 0)) (blkOk_by (N := ["bouts", "who", "pair"]) (sc := defScope sLeft) (by decide +kernel))
            (fun _ _ _ _ _ => pg_name (i := 2) scLeft.nd rfl (Or.inl rfl)) (fun _ _ _ _ _ => pts_one (pt_cmpR op_in_seq (pv 1) (pv 2) (by rfl))) (fun _ _ _ _ _ => pv 2)) pa_nil))), ?_⟩
    refine tRet_go (tCB_go (tCons_go ?_))
    refine lc_pairs (K := K) (σ := [some (.ref b), some (.int (who : Int)), none]) (ti := 0) (j := 2) (p := fun x => x.1 == who || x.2 == who) rfl hB (Nat.le_trans g.b9 (by decide)) ?_ (fun v => rfl) (fun v => rfl) (fun D H' us s1 hD hl => ?_)
    · intro t pr H1 R s1 hpr ht hR
      refine ⟨_, rfl, _, rfl, t, _, rfl, .inr (SqT.of ht), rfl, rfl, _, rfl, ?_⟩
      have e : inV (V.int (who : Int)) [V.int (pr.1 : Int), V.int (pr.2 : Int)] = (pr.1 == who || pr.2 == who) := by
        rw [show [V.int (pr.1 : Int), V.int (pr.2 : Int)] = iv [pr.1, pr.2] from rfl, iv_in, Bool.eq_iff_iff, decide_eq_true_iff]
        simp only [List.mem_cons, List.not_mem_nil, or_false, Bool.or_eq_true, beq_iff_eq]
        constructor
        · rintro (e | e)
          · exact .inl e.symm
          · exact .inr e.symm
        · rintro (e | e)
          · exact .inl e.symm
          · exact .inr e.symm
      show R (inV (V.int (who : Int)) [V.int (pr.1 : Int), V.int (pr.2 : Int)]) H1
      rw [e]
      exact hR H1 (L2.Same.refl _)
    · refine ⟨D, us, rfl, .inl (SqL.of hD), ?_⟩
      rw [hl]
      exact q H' s1
def spCould : Sp := fun vs H Q _ => ∃ (a b : Addr) (ts : List Addr) (s : Sj10.Standing) (i : Nat), vs = [.ref a, .ref b, .int (i : Int)] ∧ Ask H a b ts s i ∧ ∀ H', Same H H' → Q (.int (s.top i : Nat)) H'
theorem wins_get {s : Sj10.Standing} {i : Nat} (h : i < s.count) : s.wins[i]? = some (s.wins.getD i 0) := by
  rw [List.getD, List.getElem?_eq_getElem (show i < s.wins.length from h)]
  rfl
theorem ok_could {f : Addr} {fd : FuncData} {k : Nat} (F : Fun K "could_have" "could_have" sCould f fd) (dL : Def P w K mg base k "bouts_left" ["bouts", "who"] spLeft) : FnOk P w K mg base CX0 (k + 1) f fd ["wins", "bouts", "who"] spCould := by
  obtain ⟨fL, fdL, GL, gL, kL, bL⟩ := dL.ex
  refine F.ok scCould (fun vs H Q E h => ?_) (fun cdv A outer s H vs Q E hr h => ?_)
  · obtain ⟨a, b, ts, s, i, rfl, _⟩ := h
    rfl
  · obtain ⟨a, b, ts, s, who, rfl, ask, q⟩ := h
    refine ⟨_, pss_one (ps_ret (pe_op op_add (pe_ix ix_list (pv 0) (pv 2) (fun _ _ => rfl)) (pe_call GL hr (by rfl) gL kL bL .nil pass0 (pa_cons (pv 1) (pa_cons (pv 2) pa_nil))))), ?_⟩
    refine ⟨.ref a, rfl, _, rfl, a, _, _, _, rfl, rfl, SqL.of ask.wins, atI_nat (iv_get (wins_get ask.lt)), .ref b, rfl, _, rfl, b, ts, s, who, rfl, ask.bouts, ask.good, fun H1 s1 => ⟨_, _, rfl, rfl, ?_⟩⟩
    exact q H1 s1
/-! ### all_sets -/
def spSets : Sp := fun vs H Q _ => ∃ m : Nat, vs = [.int (m : Int)] ∧ m ≤ 6 ∧ ∀ H' p ts, Same H H' → H p = none → ListsAt H' p ts (setsUp m) → Q (.ref p) H'
theorem setsUp_mem {m : Nat} {l : List Nat} (h : l ∈ setsUp m) : l.length ≤ m := by
  obtain ⟨t, ht⟩ := List.mem_iff_getElem?.mp h
  have hlt := lt_of_get ht
  rw [setsUp_length] at hlt
  rw [setsUp_get m t hlt] at ht
  have e := Option.some.inj ht
  rw [← e]
  unfold mem
  exact Nat.le_trans (List.length_filter_le _ _) (by rw [List.length_range]; exact Nat.le_refl _)
/-- [l + [z] for l in ls] -/
theorem lc_post {z : Nat} {p : Addr} {ts : List Addr} {ls : List (List Nat)} {σ : L2.St} {H : Hp} {Q : VK} {a d : Option V} (hσ : σ = [a, some (.ref p), some (.int (z : Int)), d]) (hL : ListsAt H p ts ls) (h1 : ls.length ≤ 1000) (h2 : ∀ l ∈ ls, l.length ≤ 1000)
    (hQ : ∀ D H' us, H D = none → Same H H' → ListsAt H' D us (ls.map fun l => l ++ [z]) → Q (.ref D) H') :
    tLc (iList K (tVar 1)) (gName 3) tYes (tOp rCat (tVar 3) (tLst (tCons (tVar 2) tNil))) [3] σ H Q := by
  subst hσ
  refine ⟨.ref p, rfl, p, rfl, ⟨_, SqL.of hL.lst⟩, fun D nD => ?_⟩
  refine lc_list (K := K) (a := p) (xs := ts.map V.ref) (fun i H' => Same H H' ∧ ∃ us, ListsAt H' D us ((ls.take i).map fun l => l ++ [z]) ∧ D ∉ us) ⟨Same.new nD, [], ⟨upd_same, rfl, fun i l hl => by simp at hl⟩, by simp⟩ (fun i H' _ ⟨s1, _⟩ => s1.seq (SqL.of hL.lst)) ?_ ?_
  · rintro i x H1 hx ⟨s1, us, hU, hD⟩
    obtain ⟨t, l, hl, rfl, ht⟩ := (hL.same s1).get hx
    have hll := h2 l (List.mem_of_getElem? hl)
    have hi := lt_of_get hl
    refine ⟨rfl, tYes_go ?_⟩
    refine ⟨.ref t, rfl, .int (z : Int), rfl, (by show 1 ≤ sizeLine; decide), fun u nu => ⟨t, u, iv l, [.int (z : Int)], rfl, rfl, Same.new nu _ _ ht, upd_same, ?_, fun v nv => ?_⟩⟩
    · rw [iv_length]
      show l.length + 1 ≤ sizeLine
      exact szle (by omega)
    · have s2 : Same H1 (upd (upd H1 u (.lst [V.int (z : Int)])) v (.lst (iv l ++ [V.int (z : Int)]))) := L2.Same.trans (Same.new nu) (Same.new nv)
      have hvD : v ≠ D := fun e => by
        have := (Same.new (o := .lst [V.int (z : Int)]) nu) _ _ hU.lst
        rw [← e, nv] at this
        cases this
      have hp := (hU.same s2).push (l := l ++ [z]) hD (v := v) (by rw [upd_same, iv_append]; rfl) hvD
      refine ⟨us.map V.ref, s2 _ _ hU.lst, ?_, Same.mut (s1.trans s2) nD, us ++ [v], ?_, ?_⟩
      · rw [List.length_map, hU.len, List.length_map, List.length_take]
        exact sz (by omega)
      · rw [take_more hl, List.map_append]
        exact hp
      · rw [List.mem_append, List.mem_singleton]
        rintro (e | e)
        · exact hD e
        · exact hvD e.symm
  · rintro H1 ⟨s1, us, hU, _⟩
    rw [List.length_map, hL.len, List.take_length] at hU
    exact hQ D H1 us nD s1 hU
theorem ok_sets {f : Addr} {fd : FuncData} {k : Nat} (F : Fun K "all_sets" "all_sets" sSets f fd) (mR : mg "range" = none) : FnOk P w K mg base CX0 (k + 1) f fd ["many"] spSets := by
  refine F.ok scSets (fun vs H Q E h => ?_) (fun cdv A outer s H vs Q E hr h => ?_)
  · obtain ⟨m, rfl, _⟩ := h
    rfl
  · obtain ⟨m, rfl, h6, q⟩ := h
    refine ⟨_, pss_cons (ps_set (i := 1) scSets.nd rfl (.inl rfl) (pe_lst (pa_cons (pe_lst pa_nil) pa_nil)))
      (pss_cons (ps_for PassesOwn.never rfl (pi_range1 (by rfl) mR (pa_cons (pv 0) pa_nil)) (pg_name (i := 2) scSets.nd rfl (.inr rfl))
        (pss_one (ps_set (i := 1) scSets.nd rfl (.inl rfl) (pe_op op_cat (pv 1)
          (pe_lc (own := [("members", 3)]) (g := gName 3) (tt := tYes) rfl scSets.nd (pi_list (pv 1)) (blkOk_by (N := ["many", "sets", "who", "members"]) (sc := defScope sSets) (by decide +kernel))
            (fun _ _ _ _ _ => pg_name (i := 3) scSets.nd rfl (Or.inl rfl)) (fun _ _ _ _ _ => pts_nil) (fun _ _ _ _ _ => pe_op op_cat (pv 3) (pe_lst (pa_cons (pv 2) pa_nil))))))))
      (pss_one (ps_ret (pv 1)))), ?_⟩
    refine ⟨Nat.zero_le _, fun e ne => ⟨(by show 1 ≤ sizeLine; decide), fun p np => ?_⟩⟩
    have s1 : Same H (upd (upd H e (.lst [])) p (.lst [V.ref e])) := L2.Same.trans (Same.new ne) (Same.new np)
    have hep : e ≠ p := fun z => by rw [← z, upd_same] at np; cases np
    have np0 : H p = none := (Same.new ne).free np
    refine ⟨.int (m : Int), rfl, (m : Int), rfl, by omega, by omega, ?_⟩
    refine for_range (lo := 0) (n := m) (fun i σ H' => ∃ v p ts, σ = [some (.int (m : Int)), some (.ref p), v, none] ∧ Same H H' ∧ H p = none ∧ ListsAt H' p ts (setsUp i)) ⟨none, p, [e], rfl, s1, np0, ?_⟩ ?_ ?_
    · refine ⟨upd_same, rfl, fun i l hl => ?_⟩
      cases i with
      | zero =>
        have el : ([] : List Nat) = l := Option.some.inj hl
        subst el
        exact ⟨e, rfl, by rw [upd_ne hep]; exact upd_same⟩
      | succ i => simp [setsUp] at hl
    · rintro i σ H1 hi ⟨v, p1, ts, rfl, s2, n1, hL⟩
      have hlen : (setsUp i).length ≤ 1000 := by
        rw [setsUp_length]
        have := pow9 (show i ≤ 9 by omega)
        omega
      have hl2 : ∀ l ∈ setsUp i, l.length ≤ 1000 := fun l hl => by
        have := setsUp_mem hl
        omega
      refine gName_go (tAsg_go (tOp_go ⟨_, rfl, ?_⟩))
      refine lc_post (z := i) (by rw [Int.zero_add]; rfl) hL hlen hl2 fun D0 H2 us nD0 s3 hU => ?_
      have hL2 := hL.same s3
      refine ⟨p1, D0, ts.map V.ref, us.map V.ref, rfl, rfl, hL2.lst, hU.lst, ?_, fun p3 n3 => ?_⟩
      · rw [List.length_map, List.length_map, hU.len, hL.len, List.length_map]
        exact szle (by omega)
      · have s5 : Same H H2 := L2.Same.trans s2 s3
        exact ⟨_, p3, ts ++ us, rfl, L2.Same.trans s5 (Same.new n3), L2.Same.free s5 n3, hL2.cat hU n3⟩
    · rintro σ H1 ⟨v, p1, ts, rfl, s2, n1, hL⟩
      exact ⟨_, rfl, q H1 p1 ts s2 n1 hL⟩
end
end SF
namespace SF
open PySem PySem.Spec PyProof.Rows L2
section
variable {P : Program} {w : World} {K : PySem.W.Frag} {mg : Str → Option Value} {base : Heap}
/-! ### shares_out -/
def spShares : Sp := fun vs H Q _ => ∃ (a b c : Addr) (ts : List Addr) (s : Sj10.Standing) (l : List Nat), vs = [.ref a, .ref b, .ref c] ∧ H a = some (.lst (iv s.wins)) ∧ PairsAt H b ts s.bouts ∧ Good s ∧ H c = some (.lst (iv l)) ∧ l.length ≤ 6 ∧ (∀ k ∈ l, k < s.count) ∧
  ∀ H', Same H H' → Q (.int (sharesL s l : Nat)) H'
theorem ni_sum : ∀ l : List Nat, (ni l).sum = (l.sum : Nat)
  | [] => rfl
  | x :: l => by
    show ((x : Int) :: ni l).sum = _
    rw [List.sum_cons, List.sum_cons, ni_sum l]
    omega
theorem ok_shares {f : Addr} {fd : FuncData} {k : Nat} (F : Fun K "shares_out" "shares_out" sShares f fd) (ml : mg "len" = none) (mS : mg "sum" = none) : FnOk P w K mg base CX0 (k + 1) f fd ["wins", "bouts", "members"] spShares := by
  refine F.ok scShares (fun vs H Q E h => ?_) (fun cdv A outer s H vs Q E hr h => ?_)
  · obtain ⟨a, b, c, ts, s, l, rfl, _⟩ := h
    rfl
  · obtain ⟨a, b, c, ts, s, l, rfl, ha, hB, g, hc, h6, hlt, q⟩ := h
    refine ⟨_, pss_cons (ps_set (i := 3) scShares.nd rfl (.inl rfl) (pe_callB (cr_sum rfl) (by rfl) mS (by decide +kernel) (pa_cons
        (pe_lc (own := [("member", 4)]) (g := gName 4) (tt := tYes) (te := tOp (rIxL K) (tVar 0) (tVar 4)) rfl scShares.nd (pi_list (pv 2)) (blkOk_by (N := ["wins", "bouts", "members", "so_far", "member", "pair"]) (sc := defScope sShares) (by decide +kernel))
          (fun _ _ _ _ _ => pg_name (i := 4) scShares.nd rfl (Or.inl rfl)) (fun _ _ _ _ _ => pts_nil) (fun _ _ _ _ _ => pe_ix ix_list (pv 0) (pv 4) (fun _ _ => rfl))) pa_nil)))
      (pss_one (ps_ret (pe_op op_add (pv 3) (pe_callB call_len_seq (by rfl) ml PySem.boot_len (pa_cons
        (pe_lc (own := [("pair", 5)]) (g := gName 5) (tt := tAnd (tTest (tOp (rIn K false) (tOp (rIxT K) (tVar 5) (tC (.int 0))) (tVar 2))) (tTest (tOp (rIn K false) (tOp (rIxT K) (tVar 5) (tC (.int 1))) (tVar 2)))) rfl scShares.nd (pi_list (pv 1))
          (blkOk_by (N := ["wins", "bouts", "members", "so_far", "member", "pair"]) (sc := defScope sShares) (by decide +kernel))
          (fun _ _ _ _ _ => pg_name (i := 5) scShares.nd rfl (Or.inl rfl)) (fun _ _ _ _ _ => pts_one (PW.pt (pw_and (pt_cmpR op_in_seq (pe_ix ix_tup (pv 5) pe_int (fun _ _ => rfl)) (pv 2) (by rfl)) (pw_and1 (pt_cmpR op_in_seq (pe_ix ix_tup (pv 5) pe_int (fun _ _ => rfl)) (pv 2) (by rfl)))))) (fun _ _ _ _ _ => pv 5)) pa_nil))))), ?_⟩
    refine tSeq_go (tAsg_go (tCB_go (tCons_go ?_)))
    refine ⟨.ref c, rfl, c, rfl, ⟨_, SqL.of hc⟩, fun D nD => ?_⟩
    refine lc_list (K := K) (a := c) (xs := iv l) (fun i H' => Same H H' ∧ H' D = some (.lst (iv ((l.take i).map fun k => s.wins.getD k 0)))) ⟨Same.new nD, upd_same⟩ (fun i H' _ ⟨s1, _⟩ => s1.seq (SqL.of hc)) ?_ ?_
    · rintro i x H1 hx ⟨s1, hD⟩
      obtain ⟨m, hm, rfl⟩ := iv_of hx
      have hi := lt_of_get hm
      refine ⟨rfl, tYes_go ?_⟩
      refine ⟨_, rfl, _, rfl, a, _, _, _, rfl, rfl, SqL.of (s1 _ _ ha), atI_nat (iv_get (wins_get (hlt m (List.mem_of_getElem? hm)))), _, hD, ?_, Same.mut s1 nD, ?_⟩
      · rw [iv_length, List.length_map, List.length_take]
        exact sz (by omega)
      · rw [upd_same, take_more hm, List.map_append, iv_append]
        rfl
    · rintro H1 ⟨s1, hD⟩
      rw [iv_length, List.take_length] at hD
      refine ⟨D, ni (l.map fun k => s.wins.getD k 0), rfl, SqL.of hD, ?_⟩
      rw [ni_sum]
      refine gName_go ?_
      dsimp only
      refine tRet_go (tOp_go ⟨_, rfl, tCB_go (tCons_go ?_)⟩)
      refine lc_pairs (K := K) (σ := [some (.ref a), some (.ref b), some (.ref c), some (.int (((l.map fun k => s.wins.getD k 0).sum : Nat) : Int)), none, none]) (ti := 1) (j := 5) (p := fun x => decide (x.1 ∈ l) && decide (x.2 ∈ l)) rfl (hB.same s1) (Nat.le_trans g.b9 (by decide)) ?_ (fun v => rfl) (fun v => rfl) (fun D' H' us s2 hD' hl => ?_)
      · intro t pr H2 R s2 hpr ht hR
        have hc2 : H2 c = some (.lst (iv l)) := s2 _ _ (s1 _ _ hc)
        refine ⟨_, rfl, t, _, 0, _, rfl, rfl, SqT.of ht, atI_nat (j := 0) rfl, .ref c, rfl, c, _, rfl, .inl (SqL.of hc2), rfl, iv_flat l, _, rfl, ?_⟩
        show if inV (V.int (pr.1 : Int)) (iv l) = true then _ else _
        rw [iv_in]
        cases c1 : decide (pr.1 ∈ l) with
        | false =>
          refine if_false_of rfl ?_
          have := hR H2 (L2.Same.refl _)
          rw [show (decide (pr.1 ∈ l) && decide (pr.2 ∈ l)) = false by rw [c1]; rfl] at this
          exact this
        | true =>
          refine if_true_of rfl ⟨_, rfl, t, _, 1, _, rfl, rfl, SqT.of ht, atI_nat (j := 1) rfl, .ref c, rfl, c, _, rfl, .inl (SqL.of hc2), rfl, iv_flat l, _, rfl, ?_⟩
          show R (inV (V.int (pr.2 : Int)) (iv l)) H2
          rw [iv_in]
          have := hR H2 (L2.Same.refl _)
          rw [show (decide (pr.1 ∈ l) && decide (pr.2 ∈ l)) = decide (pr.2 ∈ l) by rw [c1]; rfl] at this
          exact this
      · refine ⟨D', us, rfl, .inl (SqL.of hD'), _, _, rfl, rfl, ?_⟩
        rw [hl]
        exact q H' (L2.Same.trans s1 s2)
/-! ### stands_in_the_way -/
def spStands : Sp := fun vs H Q _ => ∃ (a b c : Addr) (ts : List Addr) (s : Sj10.Standing) (i t : Nat), vs = [.ref a, .ref b, .ref c, .int (i : Int)] ∧ Ask H a b ts s i ∧ H c = some (.lst (iv (mem s.count t))) ∧ ∀ H', Same H H' → Q (.bl (inWay s i t)) H'
theorem mem_len (n t : Nat) : (mem n t).length ≤ n := by
  unfold mem
  exact Nat.le_trans (List.length_filter_le _ _) (by rw [List.length_range]; exact Nat.le_refl _)
theorem ok_stands {f : Addr} {fd : FuncData} {k : Nat} (F : Fun K "stands_in_the_way" "stands_in_the_way" sStands f fd) (dS : Def P w K mg base k "shares_out" ["wins", "bouts", "members"] spShares) (dC : Def P w K mg base k "could_have" ["wins", "bouts", "who"] spCould) (ml : mg "len" = none) :
    FnOk P w K mg base CX0 (k + 1) f fd ["wins", "bouts", "members", "who"] spStands := by
  obtain ⟨fS, fdS, GS, gS, kS, bS⟩ := dS.ex
  obtain ⟨fC, fdC, GC, gC, kC, bC⟩ := dC.ex
  refine F.ok scStands (fun vs H Q E h => ?_) (fun cdv A outer s H vs Q E hr h => ?_)
  · obtain ⟨a, b, c, ts, s, i, t, rfl, _⟩ := h
    rfl
  · obtain ⟨a, b, c, ts, s, who, t, rfl, ask, hc, q⟩ := h
    have h6 : (mem s.count t).length ≤ 6 := Nat.le_trans (mem_len _ _) ask.good.c6
    have hlt : ∀ k ∈ mem s.count t, k < s.count := fun k hk => (mem_mem.mp hk).1
    refine ⟨_, pss_cons (ps_if (pt_cmpR op_in_seq (pv 3) (pv 2) (by rfl)) (pss_one (ps_ret pe_bl)) pss_nil)
      (pss_one (ps_ret (pe_cmpR op_gt (pe_call GS hr (by rfl) gS kS bS .nil pass0 (pa_cons (pv 0) (pa_cons (pv 1) (pa_cons (pv 2) pa_nil))))
        (pe_op op_mul (pe_callB call_len_seq (by rfl) ml PySem.boot_len (pa_cons (pv 2) pa_nil)) (pe_call GC hr (by rfl) gC kC bC .nil pass0 (pa_cons (pv 0) (pa_cons (pv 1) (pa_cons (pv 3) pa_nil))))) (nomark _)))), ?_⟩
    refine ⟨_, rfl, .ref c, rfl, c, _, rfl, .inl (SqL.of hc), rfl, iv_flat _, _, rfl, ?_⟩
    show if inV (V.int (who : Int)) (iv (mem s.count t)) = true then _ else _
    rw [iv_in]
    have hin : decide (who ∈ mem s.count t) = t.testBit who := by
      rw [Bool.eq_iff_iff, decide_eq_true_iff, mem_mem]
      exact ⟨fun z => z.2, fun z => ⟨ask.lt, z⟩⟩
    rw [hin]
    cases c1 : t.testBit who with
    | true =>
      refine if_true_of rfl ?_
      have := q H (L2.Same.refl _)
      rw [show inWay s who t = false by unfold inWay; rw [c1]; rfl] at this
      exact this
    | false =>
      refine if_false_of rfl ⟨.ref a, rfl, .ref b, rfl, .ref c, rfl, a, b, c, ts, s, mem s.count t, rfl, ask.wins, ask.bouts, ask.good, hc, h6, hlt, fun H1 s1 => ?_⟩
      have ask1 := ask.same s1
      refine ⟨.ref c, rfl, c, _, rfl, .inl (SqL.of (s1 _ _ hc)), .ref a, rfl, .ref b, rfl, _, rfl, a, b, ts, s, who, rfl, ask1, fun H2 s2 => ⟨_, _, rfl, rfl, .inl ⟨?_, ?_⟩, _, _, rfl, rfl, ?_⟩⟩
      · omega
      · rw [iv_length]
        omega
      · have e : decide (((iv (mem s.count t)).length : Int) * ((s.top who : Nat) : Int) < ((sharesL s (mem s.count t) : Nat) : Int)) = inWay s who t := by
          unfold inWay
          rw [c1, iv_length, shares_eq ask.good, members_eq, Bool.not_false, Bool.true_and, Bool.eq_iff_iff, decide_eq_true_iff, decide_eq_true_iff, ← Int.natCast_mul]
          omega
        have := q H2 (L2.Same.trans s1 s2)
        rw [← e] at this
        exact this
/-! ### set_in_the_way -/
def spSet : Sp := fun vs H Q _ => ∃ (a b : Addr) (ts : List Addr) (s : Sj10.Standing) (i : Nat), vs = [.ref a, .ref b, .int (i : Int)] ∧ Ask H a b ts s i ∧ s.can i = none ∧ ∀ H' t, s.why i = some t → Same H H' → Q (.int (t : Int)) H'
theorem ok_set {f : Addr} {fd : FuncData} {k : Nat} (F : Fun K "set_in_the_way" "set_in_the_way" sSet f fd) (dA : Def P w K mg base k "all_sets" ["many"] spSets) (dS : Def P w K mg base k "stands_in_the_way" ["wins", "bouts", "members", "who"] spStands)
    (ml : mg "len" = none) (mN : mg "min" = none) (mE : mg "enumerate" = none) : FnOk P w K mg base CX0 (k + 1) f fd ["wins", "bouts", "who"] spSet := by
  obtain ⟨fA, fdA, GA, gA, kA, bA⟩ := dA.ex
  obtain ⟨fS, fdS, GS, gS, kS, bS⟩ := dS.ex
  refine F.ok scSet (fun vs H Q E h => ?_) (fun cdv A outer s H vs Q E hr h => ?_)
  · obtain ⟨a, b, ts, s, i, rfl, _⟩ := h
    rfl
  · obtain ⟨a, b, ts, s, who, rfl, ask, hno, q⟩ := h
    refine ⟨_, pss_cons (ps_set (i := 3) scSet.nd rfl (.inl rfl) (pe_call GA hr (by rfl) gA kA bA .nil pass0 (pa_cons (pe_callB call_len_seq (by rfl) ml PySem.boot_len (pa_cons (pv 0) pa_nil)) pa_nil)))
      (pss_one (ps_ret (pe_callB (cr_min rfl) (by rfl) mN (by decide +kernel) (pa_cons
        (pe_lc (own := [("number", 4), ("members", 5)]) (g := gTup K 2 (gCons (gName 4) (gCons (gName 5) gNil))) (tt := tB (tCall spStands [] E0 (tCons (tVar 0) (tCons (tVar 1) (tCons (tVar 5) (tCons (tVar 2) tNil)))))) rfl scSet.nd
          (pi_enum (by rfl) mE (pa_cons (pv 3) pa_nil)) (blkOk_by (N := ["wins", "bouts", "who", "sets", "number", "members"]) (sc := defScope sSet) (by decide +kernel))
          (fun _ _ _ _ _ => pg_tup rfl (pgs_cons (pg_name (i := 4) scSet.nd rfl (Or.inl rfl)) (pgs_cons (pg_name (i := 5) scSet.nd rfl (Or.inl rfl)) pgs_nil)))
          (fun _ _ _ _ _ => pts_one (pt_val (pe_call GS hr (by rfl) gS kS bS .nil pass0 (pa_cons (pv 0) (pa_cons (pv 1) (pa_cons (pv 5) (pa_cons (pv 2) pa_nil)))))))
          (fun _ _ _ _ _ => pv 4)) pa_nil)))), ?_⟩
    refine ⟨.ref a, rfl, a, _, rfl, .inl (SqL.of ask.wins), s.count, by rw [iv_length]; rfl, ask.good.c6, fun H1 p us s1 np hL => ?_⟩
    refine gName_go ?_
    dsimp only
    refine tRet_go (tCB_go (tCons_go ?_))
    refine ⟨.ref p, rfl, p, us.map V.ref, rfl, SqL.of hL.lst, fun D nD => ?_⟩
    refine ⟨fun i m H' => i + m = (us.map V.ref).length ∧ Same H1 H' ∧ H' D = some (.lst (iv ((List.range i).filter (inWay s who)))), ⟨_, Nat.zero_add _, Same.new nD, upd_same⟩, ?_⟩
    rintro i m H2 ⟨hm, s2, hD⟩
    have hSq : SqL K H2 p (us.map V.ref) := s2.seq (SqL.of hL.lst)
    cases m with
    | succ m =>
      obtain ⟨x0, hx0⟩ := get_of_lt (show i < (us.map V.ref).length by omega)
      refine .inr ⟨⟨_, x0, hSq, hx0⟩, fun H' => (i + 1) + m = (us.map V.ref).length ∧ Same H1 H' ∧ H' D = some (.lst (iv ((List.range (i + 1)).filter (inWay s who)))), fun H' hN => ⟨m, Nat.lt_succ_self m, hN⟩, ?_⟩
      rintro _ _ ⟨T, x, rfl, nT, rfl, hxs⟩
      obtain ⟨t, l, hl, rfl, ht⟩ := (hL.same s2).get (hxs _ hSq)
      have hi := lt_of_get hl
      rw [setsUp_length] at hi
      have el : l = mem s.count i := Option.some.inj (hl.symm.trans (setsUp_get _ _ hi))
      subst el
      have sT : Same H2 (upd H2 T (.tup [V.int ((i : Nat) : Int), V.ref t])) := Same.new nT
      have s3 : Same H1 (upd H2 T (.tup [V.int ((i : Nat) : Int), V.ref t])) := L2.Same.trans s2 sT
      have hle : ((List.range i).filter (inWay s who)).length ≤ 1000 := by
        refine Nat.le_trans (List.length_filter_le _ _) ?_
        rw [List.length_range]
        have := pow9 (show s.count ≤ 9 from Nat.le_trans ask.good.c6 (by decide))
        omega
      have er : (List.range (i + 1)).filter (inWay s who) = (List.range i).filter (inWay s who) ++ (if inWay s who i = true then [i] else []) := by
        rw [List.range_succ, List.filter_append, List.filter_cons, List.filter_nil]
      refine ⟨T, _, rfl, SqT.of upd_same, rfl, _, _, rfl, _, _, rfl, rfl, rfl, ?_⟩
      refine ⟨.ref a, rfl, .ref b, rfl, .ref t, rfl, _, rfl, a, b, t, ts, s, who, i, rfl, ask.same (L2.Same.trans s1 s3), sT _ _ ht, fun H4 s4 => ⟨_, rfl, ?_⟩⟩
      cases c : inWay s who i with
      | true =>
        rw [c, if_pos rfl] at er
        refine if_true_of rfl ⟨_, rfl, _, s4 _ _ (sT _ _ hD), ?_, (by omega), Same.mut (L2.Same.trans s3 s4) nD, ?_⟩
        · rw [iv_length]
          exact sz (by omega)
        · rw [upd_same, er, iv_append]
          rfl
      | false =>
        rw [c, if_neg Bool.false_ne_true, List.append_nil] at er
        refine if_false_of rfl ⟨(by omega), L2.Same.trans s3 s4, ?_⟩
        rw [er]
        exact s4 _ _ (sT _ _ hD)
    | zero =>
      refine .inl ⟨⟨_, hSq, by omega⟩, ?_⟩
      have hn : i = 2 ^ s.count := by
        rw [List.length_map, hL.len, setsUp_length] at hm
        exact hm
      rw [hn] at hD
      obtain ⟨t0, ht0, hw0⟩ := hall ask.good ask.lt hno
      have m0 : t0 ∈ (List.range (2 ^ s.count)).filter (inWay s who) := List.mem_filter.mpr ⟨List.mem_range.mpr ht0, hw0⟩
      refine ⟨D, ni ((List.range (2 ^ s.count)).filter (inWay s who)), rfl, SqL.of hD, ?_, fun m hm hle => ?_⟩
      · rw [List.length_map]
        exact List.length_pos_of_mem m0
      · obtain ⟨n, rfl, hn⟩ := ni_mem hm
        obtain ⟨h1, h2⟩ := List.mem_filter.mp hn
        refine q H2 n (why_of (List.mem_range.mp h1) h2 fun t ht hw => ?_) (L2.Same.trans s1 s2)
        have := hle (t : Int) (List.mem_map.mpr ⟨t, List.mem_filter.mpr ⟨List.mem_range.mpr ht, hw⟩, rfl⟩)
        omega
end
end SF
namespace SF
open PySem PySem.Spec PyProof.Rows L2
abbrev sInit : Stmt := inClass (top 25) 0
abbrev sBegins : Stmt := inClass (top 25) 1
abbrev sWrestler : Stmt := inClass (top 25) 2
abbrev sBout : Stmt := inClass (top 25) 3
abbrev sCheck : Stmt := inClass (top 25) 4
abbrev sCan : Stmt := inClass (top 25) 5
abbrev sOddsM : Stmt := inClass (top 25) 6
abbrev sNeeds : Stmt := inClass (top 25) 7
abbrev sThere : Stmt := inClass (top 25) 8
theorem scInit : FnScope ["self"] ["self"] (defScope sInit) := ⟨rfl, rfl, rfl, by decide +kernel, rfl, by decide +kernel, by decide +kernel⟩
theorem scBegins : FnScope ["self"] ["self"] (defScope sBegins) := ⟨rfl, rfl, rfl, by decide +kernel, rfl, by decide +kernel, by decide +kernel⟩
theorem scWrestler : FnScope ["self", "wins"] ["self", "wins"] (defScope sWrestler) := ⟨rfl, rfl, rfl, by decide +kernel, rfl, by decide +kernel, by decide +kernel⟩
theorem scBout : FnScope ["self", "one", "other"] ["self", "one", "other"] (defScope sBout) := ⟨rfl, rfl, rfl, by decide +kernel, rfl, by decide +kernel, by decide +kernel⟩
theorem scCheck : FnScope ["self", "outcome", "ends"] ["self", "outcome"] (defScope sCheck) := ⟨rfl, rfl, rfl, by decide +kernel, rfl, by decide +kernel, by decide +kernel⟩
theorem scCan : FnScope ["self", "who", "outcome"] ["self", "who"] (defScope sCan) := ⟨rfl, rfl, rfl, by decide +kernel, rfl, by decide +kernel, by decide +kernel⟩
theorem scOddsM : FnScope ["self", "who"] ["self", "who"] (defScope sOddsM) := ⟨rfl, rfl, rfl, by decide +kernel, rfl, by decide +kernel, by decide +kernel⟩
theorem scNeeds : FnScope ["self", "who", "in_vain"] ["self", "who"] (defScope sNeeds) := ⟨rfl, rfl, rfl, by decide +kernel, rfl, by decide +kernel, by decide +kernel⟩
theorem scThere : FnScope ["self", "who"] ["self", "who"] (defScope sThere) := ⟨rfl, rfl, rfl, by decide +kernel, rfl, by decide +kernel, by decide +kernel⟩
/-! ### the object -/
def sF (l b : Addr) : List (Str × V) := [("wins", .ref l), ("bouts", .ref b)]
theorem lk_here {k : Str} {v : V} {r : List (Str × V)} : List.lookup k ((k, v) :: r) = some v := by
  have e : (k == k) = true := beq_self_eq_true k
  simp only [List.lookup, e]
theorem lk_past {k g : Str} {v : V} {r : List (Str × V)} (h : (k == g) = false) : List.lookup k ((g, v) :: r) = List.lookup k r := by
  simp only [List.lookup, h]
theorem put_here {f : Str} {v x : V} {r : List (Str × V)} : putF f v ((f, x) :: r) = (f, v) :: r := if_pos rfl
theorem put_past {f g : Str} {v x : V} {r : List (Str × V)} (h : ¬ g = f) : putF f v ((g, x) :: r) = (g, x) :: putF f v r := if_neg h
theorem sF_wins (l b : Addr) : (sF l b).lookup ("wins" : Str) = some (.ref l) := lk_here
theorem sF_bouts (l b : Addr) : (sF l b).lookup ("bouts" : Str) = some (.ref b) := (lk_past (by decide +kernel)).trans lk_here
theorem sF_none (l b : Addr) {m : Str} (h1 : (m == ("wins" : Str)) = false) (h2 : (m == ("bouts" : Str)) = false) : (sF l b).lookup m = none := (lk_past h1).trans ((lk_past h2).trans rfl)
theorem sF_putW (l b l' : Addr) : putF "wins" (.ref l') (sF l b) = sF l' b := put_here
theorem sF_putB (l b b' : Addr) : putF "bouts" (.ref b') (sF l b) = sF l b' := (put_past (by decide +kernel)).trans (congrArg _ put_here)
theorem sF_new (l b : Addr) : putF "bouts" (.ref b) (putF "wins" (.ref l) []) = sF l b := (put_past (by decide +kernel)).trans rfl
/-- the standing s as it lies at a: its dict, its two lists, the pairs -/
structure StAt (C : Addr) (H : Hp) (a dx l b : Addr) (ts : List Addr) (s : Sj10.Standing) : Prop where
  ins : H a = some (.ins C dx (sF l b))
  wins : H l = some (.lst (iv s.wins))
  bouts : PairsAt H b ts s.bouts
  ne : l ≠ b
theorem StAt.same {C : Addr} {H H' : Hp} {a dx l b : Addr} {ts : List Addr} {s : Sj10.Standing} (h : StAt C H a dx l b ts s) (e : Same H H') : StAt C H' a dx l b ts s := ⟨e _ _ h.ins, e _ _ h.wins, h.bouts.same e, h.ne⟩
theorem StAt.ask {C : Addr} {H : Hp} {a dx l b : Addr} {ts : List Addr} {s : Sj10.Standing} {i : Nat} (h : StAt C H a dx l b ts s) (g : Good s) (hi : i < s.count) : Ask H l b ts s i := ⟨h.wins, h.bouts, g, hi⟩
/-- all else stands -/
def Kept (H H' : Hp) (a l b : Addr) : Prop := ∀ q o, H q = some o → q ≠ a → q ≠ l → q ≠ b → H' q = some o
def ansV (r : Sj10.Ans) : List V := (r.v :: r.l).map V.int
/-- what a call hands back, and what it leaves -/
def Done (C : Addr) (H : Hp) (a dx l b : Addr) (s : Sj10.Standing) (c : Sj10.Call) (Q : VK) : Prop :=
  ∀ (H' : Hp) (p l' b' : Addr) (ts' : List Addr), StAt C H' a dx l' b' ts' (Sj10.step s c).1 → Kept H H' a l b → (l' = l ∨ H l' = none) → (b' = b ∨ H b' = none) → H p = none → H' p = some (.lst (ansV (Sj10.step s c).2)) → Q (.ref p) H'
theorem Done.later {C : Addr} {H H1 : Hp} {a dx l b : Addr} {s : Sj10.Standing} {c : Sj10.Call} {Q : VK} (h : Done C H a dx l b s c Q) (e : Same H H1) : Done C H1 a dx l b s c Q :=
  fun H' p l' b' ts' h1 h2 h3 h4 h5 h6 => h H' p l' b' ts' h1 (fun q o hq n1 n2 n3 => h2 q o (e _ _ hq) n1 n2 n3) (h3.imp id fun z => L2.Same.free e z) (h4.imp id fun z => L2.Same.free e z) (L2.Same.free e h5) h6
/-- a call that changes nothing -/
theorem Done.still {C : Addr} {H H' : Hp} {a dx l b p : Addr} {ts : List Addr} {s : Sj10.Standing} {c : Sj10.Call} {r : Sj10.Ans} {Q : VK} (h : Done C H a dx l b s c Q) (S : StAt C H a dx l b ts s) (hs : Sj10.step s c = (s, r)) (e : Same H H') (np : H p = none) (hp : H' p = some (.lst (ansV r))) : Q (.ref p) H' := by
  refine h H' p l b ts ?_ (fun q o hq _ _ _ => e _ _ hq) (.inl rfl) (.inl rfl) np ?_
  · rw [hs]
    exact S.same e
  · rw [hs]
    exact hp
/-- .. its answer one number in a list made at the end -/
theorem Done.one {C : Addr} {H H1 : Hp} {a dx l b : Addr} {ts : List Addr} {s : Sj10.Standing} {c : Sj10.Call} {z : Int} {Q : VK} (h : Done C H a dx l b s c Q) (S : StAt C H a dx l b ts s) (hs : Sj10.step s c = (s, Sj10.ok z)) (e : Same H H1) :
    1 ≤ sizeLine ∧ ∀ p, H1 p = none → Q (.ref p) (upd H1 p (.lst [.int z])) :=
  ⟨by decide, fun p np => h.still S hs (L2.Same.trans e (Same.new np)) (L2.Same.free e np) upd_same⟩
/-- what the top has written -/
structure Txt (K : PySem.W.Frag) (mg : Str → Option Value) (C : Addr) : Prop where
  cl : Cls K C
  nW : NoAttr K C "wins"
  nB : NoAttr K C "bouts"
  gC : mg "Standing" = some (.ref C)
  len : mg "len" = none
  mostW : ∃ t, mg "MOST_WRESTLERS" = some (.int 6 t)
  mostI : ∃ t, mg "MOST_WINS" = some (.int 15 t)
  mostB : ∃ t, mg "MOST_BOUTS" = some (.int 9 t)
  wrong : ∃ t, mg "WRONG_NUMBER" = some (.int (-1) t)
  there : ∃ t, mg "NOT_THERE" = some (.int (-2) t)
  both : ∃ t, mg "BOTH_THE_SAME" = some (.int (-4) t)
  room : ∃ t, mg "NO_ROOM" = some (.int (-5) t)
  sure : ∃ t, mg "NOT_SURE" = some (.int (-6) t)
/-- a method of the class by its name -/
structure MDef (P : Program) (w : World) (K : PySem.W.Frag) (mg : Str → Option Value) (base : Heap) (C : Addr) (k : Nat) (x : Str) (ps : List Str) (sp : Sp) : Prop where
  ex : ∃ (f : Addr) (fd : FuncData), FnOk P w K mg base CX0 k f fd ps sp ∧ Meth K C x f ∧ Binds K fd ps []
theorem MDef.mono {P : Program} {w : World} {K : PySem.W.Frag} {mg : Str → Option Value} {base : Heap} {C : Addr} {j k : Nat} {x : Str} {ps : List Str} {sp : Sp} (D : MDef P w K mg base C j x ps sp) (h : j ≤ k) : MDef P w K mg base C k x ps sp := by
  obtain ⟨f, fd, G, m, b⟩ := D.ex
  exact ⟨f, fd, G.mono h, m, b⟩
def spM (C : Addr) (R : Sj10.Call → List V → Hp → Prop) : Sp := fun vs H Q _ => ∃ (a dx l b : Addr) (ts : List Addr) (s : Sj10.Standing) (c : Sj10.Call) (args : List V), vs = .ref a :: args ∧ R c args H ∧ StAt C H a dx l b ts s ∧ Good s ∧ Done C H a dx l b s c Q
def rBegins : Sj10.Call → List V → Hp → Prop := fun c args _ => c = .begins ∧ args = []
def rWrestler : Sj10.Call → List V → Hp → Prop := fun c args _ => ∃ n : Nat, c = .wrestler n ∧ args = [.int (n : Int)]
def rBout : Sj10.Call → List V → Hp → Prop := fun c args _ => ∃ n m : Nat, c = .bout n m ∧ args = [.int (n : Int), .int (m : Int)]
def rCheck : Sj10.Call → List V → Hp → Prop := fun c args H => ∃ (o : List Nat) (q : Addr), c = .check o ∧ args = [.ref q] ∧ H q = some (.lst (iv o))
def rCan : Sj10.Call → List V → Hp → Prop := fun c args _ => ∃ n : Nat, c = .can n ∧ args = [.int (n : Int)]
def rOdds : Sj10.Call → List V → Hp → Prop := fun c args _ => ∃ n : Nat, c = .odds n ∧ args = [.int (n : Int)]
def rNeeds : Sj10.Call → List V → Hp → Prop := fun c args _ => ∃ n : Nat, c = .needs n ∧ args = [.int (n : Int)]
section
variable {P : Program} {w : World} {K : PySem.W.Frag} {mg : Str → Option Value} {base : Heap} {C : Addr}
/-! ### __init__, is_there, begins -/
def spInit (C : Addr) : Sp := fun vs H Q _ => ∃ (p dx : Addr), vs = [.ref p] ∧ H p = some (.ins C dx []) ∧ ∀ (H' : Hp) (l b : Addr), StAt C H' p dx l b [] ⟨[], []⟩ → H l = none → H b = none → (∀ q o, H q = some o → q ≠ p → H' q = some o) → Q .non H'
theorem ok_init {f : Addr} {fd : FuncData} {k : Nat} (F : Fun K "__init__" "Standing.__init__" sInit f fd) (T : Txt K mg C) : FnOk P w K mg base CX0 (k + 1) f fd ["self"] (spInit C) := by
  refine F.ok scInit (fun vs H Q E h => ?_) (fun cdv A outer s H vs Q E hr h => ?_)
  · obtain ⟨p, dx, rfl, _⟩ := h
    rfl
  · obtain ⟨p, dx, rfl, hp, q⟩ := h
    refine ⟨_, pss_cons (ps_fld (pv 0) (pe_lst pa_nil) rfl) (pss_one (ps_fld (pv 0) (pe_lst pa_nil) rfl)), ?_⟩
    refine ⟨Nat.zero_le _, fun l nl => ⟨_, rfl, p, C, dx, [], rfl, ?_, T.cl, T.nW, (by show 0 < 1000; decide), ?_⟩⟩
    · exact Same.new nl _ _ hp
    · have npl : l ≠ p := fun z => by rw [z, hp] at nl; cases nl
      refine ⟨Nat.zero_le _, fun b nb => ⟨_, rfl, p, C, dx, putF "wins" (V.ref l) [], rfl, ?_, T.cl, T.nB, (by show 1 < 1000; decide), ?_⟩⟩
      · exact Same.new nb _ _ upd_same
      · have nbp : b ≠ p := fun z => by rw [z, upd_same] at nb; cases nb
        have nbl : b ≠ l := fun z => by rw [z, upd_ne npl, upd_same] at nb; cases nb
        have nb0 : H b = none := by rw [upd_ne nbp, upd_ne nbl] at nb; exact nb
        refine q _ l b ⟨?_, ?_, ⟨?_, rfl, fun i p hp => by simp at hp⟩, nbl.symm⟩ nl nb0 fun x o hx hxp => ?_
        · rw [upd_same, sF_new]
        · rw [upd_ne npl, upd_ne nbl.symm, upd_ne npl, upd_same]
          rfl
        · rw [upd_ne nbp, upd_same]
          rfl
        · have n1 : x ≠ b := ne_of_none hx nb0
          have n2 : x ≠ l := ne_of_none hx nl
          rw [upd_ne hxp, upd_ne n1, upd_ne hxp, upd_ne n2]
          exact hx
def spThere (C : Addr) : Sp := fun vs H Q _ => ∃ (a dx l b : Addr) (ts : List Addr) (s : Sj10.Standing) (n : Nat), vs = [.ref a, .int (n : Int)] ∧ StAt C H a dx l b ts s ∧ Q (.bl (decide (n < s.count))) H
theorem ok_there {f : Addr} {fd : FuncData} {k : Nat} (F : Fun K "is_there" "Standing.is_there" sThere f fd) (T : Txt K mg C) : FnOk P w K mg base CX0 (k + 1) f fd ["self", "who"] (spThere C) := by
  refine F.ok scThere (fun vs H Q E h => ?_) (fun cdv A outer s H vs Q E hr h => ?_)
  · obtain ⟨a, dx, l, b, ts, s, n, rfl, _⟩ := h
    rfl
  · obtain ⟨a, dx, l, b, ts, s, n, rfl, S, q⟩ := h
    refine ⟨_, pss_one (ps_ret (pe_cmpR op_lt (pv 1) (pe_callB call_len_seq (by rfl) T.len PySem.boot_len (pa_cons (pe_fld (pv 0) rfl) pa_nil)) (nomark _))), ?_⟩
    refine ⟨_, rfl, .ref a, rfl, a, C, dx, _, _, rfl, S.ins, T.cl, T.nW, sF_wins l b, l, _, rfl, .inl (SqL.of S.wins), _, _, rfl, rfl, ?_⟩
    have e : decide ((n : Int) < ((iv s.wins).length : Int)) = decide (n < s.count) := by
      rw [iv_length, Bool.eq_iff_iff, decide_eq_true_iff, decide_eq_true_iff]
      show _ ↔ n < s.wins.length
      omega
    rw [← e] at q
    exact q
theorem ok_begins {f : Addr} {fd : FuncData} {k : Nat} (F : Fun K "begins" "Standing.begins" sBegins f fd) (T : Txt K mg C) : FnOk P w K mg base CX0 (k + 1) f fd ["self"] (spM C rBegins) := by
  refine F.ok scBegins (fun vs H Q E h => ?_) (fun cdv A outer s H vs Q E hr h => ?_)
  · obtain ⟨a, dx, l, b, ts, s, c, args, rfl, ⟨rfl, rfl⟩, _⟩ := h
    rfl
  · obtain ⟨a, dx, l0, b0, ts, s, c, args, rfl, ⟨rfl, rfl⟩, S, g, q⟩ := h
    have hp := S.ins
    refine ⟨_, pss_cons (ps_fld (pv 0) (pe_lst pa_nil) rfl) (pss_cons (ps_fld (pv 0) (pe_lst pa_nil) rfl) (pss_one (ps_ret (pe_lst (pa_cons pe_int pa_nil))))), ?_⟩
    refine ⟨Nat.zero_le _, fun l nl => ⟨_, rfl, a, C, dx, sF l0 b0, rfl, ?_, T.cl, T.nW, (by show 2 < 1000; decide), ?_⟩⟩
    · exact Same.new nl _ _ hp
    · have npl : l ≠ a := fun z => by rw [z, hp] at nl; cases nl
      refine ⟨Nat.zero_le _, fun b nb => ⟨_, rfl, a, C, dx, putF "wins" (V.ref l) (sF l0 b0), rfl, ?_, T.cl, T.nB, ?_, ?_⟩⟩
      · exact Same.new nb _ _ upd_same
      · rw [sF_putW]
        show 2 < 1000
        decide
      · have nbp : b ≠ a := fun z => by rw [z, upd_same] at nb; cases nb
        have nbl : b ≠ l := fun z => by rw [z, upd_ne npl, upd_same] at nb; cases nb
        have nb0 : H b = none := by rw [upd_ne nbp, upd_ne nbl] at nb; exact nb
        refine ⟨(by show 1 ≤ sizeLine; decide), fun p np => ?_⟩
        have npa : p ≠ a := fun z => by rw [z, upd_same] at np; cases np
        have npb : p ≠ b := fun z => by rw [z, upd_ne nbp, upd_same] at np; cases np
        have npl' : p ≠ l := fun z => by rw [z, upd_ne npl, upd_ne nbl.symm, upd_ne npl, upd_same] at np; cases np
        have np0 : H p = none := by rw [upd_ne npa, upd_ne npb, upd_ne npa, upd_ne npl'] at np; exact np
        refine q _ p l b [] ⟨?_, ?_, ⟨?_, rfl, fun i p hp => by simp [Sj10.step, Sj10.init] at hp⟩, nbl.symm⟩ (fun x o hx hxa _ _ => ?_) (.inr nl) (.inr nb0) np0 upd_same
        · rw [upd_ne npa.symm, upd_same, sF_putW, sF_putB]
        · rw [upd_ne npl'.symm, upd_ne npl, upd_ne nbl.symm, upd_ne npl, upd_same]
          rfl
        · rw [upd_ne npb.symm, upd_ne nbp, upd_same]
          rfl
        · have n1 : x ≠ b := ne_of_none hx nb0
          have n2 : x ≠ l := ne_of_none hx nl
          have n3 : x ≠ p := ne_of_none hx np0
          rw [upd_ne n3, upd_ne hxa, upd_ne n1, upd_ne hxa, upd_ne n2]
          exact hx
end
end SF
namespace SF
open PySem PySem.Spec PyProof.Rows L2
section
variable {P : Program} {w : World} {K : PySem.W.Frag} {mg : Str → Option Value} {base : Heap} {C : Addr}
theorem lst_ne_of {H : Hp} {p q : Addr} {xs : List V} {x y : Nat} (h : H p = some (.tup [.int (x : Int), .int (y : Int)])) (h' : H q = some (.lst xs)) : p ≠ q := ne_of h h' (by intro z; cases z)
theorem step_wrestler (s : Sj10.Standing) (n : Nat) : Sj10.step s (.wrestler n) = if 15 < n then (s, Sj10.ok (-1)) else if 6 ≤ s.count then (s, Sj10.ok (-5)) else ({ s with wins := s.wins ++ [n] }, Sj10.ok ((s.count : Nat) : Int)) := rfl
theorem relI (i : Int) (t : Tok) : RelV (.int i) (.int i t) := ⟨t, rfl⟩
/-! ### wrestler -/
theorem ok_wrestler {f : Addr} {fd : FuncData} {k : Nat} (F : Fun K "wrestler" "Standing.wrestler" sWrestler f fd) (T : Txt K mg C) : FnOk P w K mg base CX0 (k + 1) f fd ["self", "wins"] (spM C rWrestler) := by
  obtain ⟨t1, g1⟩ := T.mostI
  obtain ⟨t2, g2⟩ := T.wrong
  obtain ⟨t3, g3⟩ := T.mostW
  obtain ⟨t4, g4⟩ := T.room
  refine F.ok scWrestler (fun vs H Q E h => ?_) (fun cdv A outer s H vs Q E hr h => ?_)
  · obtain ⟨a, dx, l, b, ts, s, c, args, rfl, ⟨n, rfl, rfl⟩, _⟩ := h
    rfl
  · obtain ⟨a, dx, l, b, ts, s, c, args, rfl, ⟨n, rfl, rfl⟩, S, g, q⟩ := h
    refine ⟨_, pss_cons (ps_if (pt_cmpR op_gt (pv 1) (pe_glob (by rfl) g1 (relI _ _)) (nomark _)) (pss_one (ps_ret (pe_lst (pa_cons (pe_glob (by rfl) g2 (relI _ _)) pa_nil)))) pss_nil)
      (pss_cons (ps_if (pt_cmpR op_eq (pe_callB call_len_seq (by rfl) T.len PySem.boot_len (pa_cons (pe_fld (pv 0) rfl) pa_nil)) (pe_glob (by rfl) g3 (relI _ _)) (nomark _)) (pss_one (ps_ret (pe_lst (pa_cons (pe_glob (by rfl) g4 (relI _ _)) pa_nil)))) pss_nil)
      (pss_cons (ps_expr (pe_bm PySem.F.plainAttrs_list PySem.F.slot_list_append PySem.F.type_list_append mt_append (pe_fld (pv 0) rfl) (pa_cons (pv 1) pa_nil)))
      (pss_one (ps_ret (pe_lst (pa_cons (pe_op op_sub (pe_callB call_len_seq (by rfl) T.len PySem.boot_len (pa_cons (pe_fld (pv 0) rfl) pa_nil)) pe_int) pa_nil)))))), ?_⟩
    refine ⟨_, rfl, _, _, rfl, rfl, _, rfl, ?_⟩
    by_cases c1 : 15 < n
    · refine if_true_of (decide_eq_true (by omega)) ?_
      exact q.one S (if_pos c1) (L2.Same.refl H)
    · refine if_false_of (decide_eq_false (by omega)) ?_
      refine ⟨.ref a, rfl, a, C, dx, _, _, rfl, S.ins, T.cl, T.nW, sF_wins l b, l, _, rfl, .inl (SqL.of S.wins), rfl, _, rfl, ?_⟩
      have hl : (iv s.wins).length = s.count := iv_length _
      by_cases c2 : s.count = 6
      · refine if_true_of (decide_eq_true (by rw [hl, c2]; rfl)) ?_
        refine q.one S ?_ (L2.Same.refl H)
        rw [step_wrestler, if_neg c1, if_pos (show 6 ≤ s.count by omega)]
      · have c3 : s.count < 6 := by
          have := g.c6
          have : s.count ≤ 6 := this
          omega
        refine if_false_of (decide_eq_false fun z => c2 (by have := V.int.inj z; rw [hl] at this; omega)) ?_
        have hs : Sj10.step s (.wrestler n) = ({ s with wins := s.wins ++ [n] }, Sj10.ok ((s.count : Nat) : Int)) := by
          rw [step_wrestler, if_neg c1, if_neg (show ¬ 6 ≤ s.count by omega)]
        have nla : l ≠ a := ne_of S.wins S.ins (by intro z; cases z)
        refine ⟨.ref a, rfl, a, C, dx, _, _, rfl, S.ins, T.cl, T.nW, sF_wins l b, .inl ⟨rfl, _, SqL.of S.wins⟩, _, rfl, l, _, _, rfl, rfl, S.wins, ?_, ?_⟩
        · rw [hl]
          exact sz (by omega)
        · have hw : iv s.wins ++ [V.int (n : Int)] = iv (s.wins ++ [n]) := by rw [iv_append]; rfl
          rw [hw]
          generalize hH : upd H l (.lst (iv (s.wins ++ [n]))) = H1
          have ha : H1 a = some (.ins C dx (sF l b)) := by rw [← hH, upd_ne nla.symm]; exact S.ins
          have hL : H1 l = some (.lst (iv (s.wins ++ [n]))) := by rw [← hH, upd_same]
          have hk : ∀ x o, H x = some o → x ≠ l → H1 x = some o := fun x o hx hne => by rw [← hH, upd_ne hne]; exact hx
          have hB : PairsAt H1 b ts s.bouts := ⟨hk _ _ S.bouts.lst S.ne.symm, S.bouts.len, fun i p hp => by
            obtain ⟨t, h1, h2⟩ := S.bouts.at_ i p hp
            exact ⟨t, h1, hk _ _ h2 (lst_ne_of h2 S.wins)⟩⟩
          refine ⟨.ref a, rfl, a, C, dx, _, _, rfl, ha, T.cl, T.nW, sF_wins l b, l, _, rfl, .inl (SqL.of hL), _, _, rfl, rfl, (by show 1 ≤ sizeLine; decide), fun p np => ?_⟩
          have sN : Same H1 (upd H1 p (.lst [V.int (((iv (s.wins ++ [n])).length : Int) - 1)])) := Same.new np
          have npl : p ≠ l := fun z => by rw [z, hL] at np; cases np
          have np0 : H p = none := by
            cases hz : H p with
            | none => rfl
            | some o =>
              have := hk _ _ hz npl
              rw [np] at this
              cases this
          refine q _ p l b ts ?_ (fun x o hx _ h2 _ => sN _ _ (hk x o hx h2)) (.inl rfl) (.inl rfl) np0 ?_
          · rw [hs]
            exact ⟨sN _ _ ha, sN _ _ hL, hB.same sN, S.ne⟩
          · rw [hs]
            have e : ((iv (s.wins ++ [n])).length : Int) - 1 = ((s.count : Nat) : Int) := by
              rw [iv_length, List.length_append]
              show ((s.wins.length + 1 : Nat) : Int) - 1 = ((s.wins.length : Nat) : Int)
              omega
            rw [show (fun i j => V.int (i - j)) ((iv (s.wins ++ [n])).length : Int) 1 = V.int (((iv (s.wins ++ [n])).length : Int) - 1) from rfl, e, upd_same]
            rfl
/-! ### bout -/
theorem step_bout (s : Sj10.Standing) (n m : Nat) : Sj10.step s (.bout n m) = if s.count ≤ n ∨ s.count ≤ m then (s, Sj10.ok (-2)) else if n = m then (s, Sj10.ok (-4)) else if 9 ≤ s.bouts.length then (s, Sj10.ok (-5)) else ({ s with bouts := s.bouts ++ [(n, m)] }, Sj10.ok ((s.bouts.length : Nat) : Int)) := rfl
theorem ok_bout {f : Addr} {fd : FuncData} {k : Nat} (F : Fun K "bout" "Standing.bout" sBout f fd) (T : Txt K mg C) (dT : MDef P w K mg base C k "is_there" ["self", "who"] (spThere C)) : FnOk P w K mg base CX0 (k + 1) f fd ["self", "one", "other"] (spM C rBout) := by
  obtain ⟨t1, g1⟩ := T.there
  obtain ⟨t2, g2⟩ := T.both
  obtain ⟨t3, g3⟩ := T.mostB
  obtain ⟨t4, g4⟩ := T.room
  obtain ⟨fT, fdT, GT, mT, bT⟩ := dT.ex
  refine F.ok scBout (fun vs H Q E h => ?_) (fun cdv A outer s H vs Q E hr h => ?_)
  · obtain ⟨a, dx, l, b, ts, s, c, args, rfl, ⟨n, m, rfl, rfl⟩, _⟩ := h
    rfl
  · obtain ⟨a, dx, l, b, ts, s, c, args, rfl, ⟨n, m, rfl, rfl⟩, S, g, q⟩ := h
    have hs := step_bout s n m
    refine ⟨_, pss_cons (ps_if (PW.pt (pw_or (pt_not (pt_val (pe_meth (pv 0) T.cl mT GT hr bT .nil pass0 (pa_cons (pv 1) pa_nil)))) (pw_or1 (pt_not (pt_val (pe_meth (pv 0) T.cl mT GT hr bT .nil pass0 (pa_cons (pv 2) pa_nil))))))) (pss_one (ps_ret (pe_lst (pa_cons (pe_glob (by rfl) g1 (relI _ _)) pa_nil)))) pss_nil)
      (pss_cons (ps_if (pt_cmpR op_eq (pv 1) (pv 2) (nomark _)) (pss_one (ps_ret (pe_lst (pa_cons (pe_glob (by rfl) g2 (relI _ _)) pa_nil)))) pss_nil)
      (pss_cons (ps_if (pt_cmpR op_eq (pe_callB call_len_seq (by rfl) T.len PySem.boot_len (pa_cons (pe_fld (pv 0) rfl) pa_nil)) (pe_glob (by rfl) g3 (relI _ _)) (nomark _)) (pss_one (ps_ret (pe_lst (pa_cons (pe_glob (by rfl) g4 (relI _ _)) pa_nil)))) pss_nil)
      (pss_cons (ps_expr (pe_bm PySem.F.plainAttrs_list PySem.F.slot_list_append PySem.F.type_list_append mt_append (pe_fld (pv 0) rfl) (pa_cons (pe_tup (pa_cons (pv 1) (pa_cons (pv 2) pa_nil))) pa_nil)))
      (pss_one (ps_ret (pe_lst (pa_cons (pe_op op_sub (pe_callB call_len_seq (by rfl) T.len PySem.boot_len (pa_cons (pe_fld (pv 0) rfl) pa_nil)) pe_int) pa_nil))))))), ?_⟩
    refine ⟨.ref a, rfl, a, dx, _, rfl, S.ins, sF_none l b (by decide +kernel) (by decide +kernel), _, rfl, a, dx, l, b, ts, s, n, rfl, S, _, rfl, ?_⟩
    have rest : ¬ (s.count ≤ n ∨ s.count ≤ m) → (tSeq (tIfS (tTest (tOp rEq (tVar 1) (tVar 2))) (tRet (tLst (tCons (tC (.int (-4))) tNil))) tNext)
        (tSeq (tIfS (tTest (tOp rEq (tCB (fun xs H Q => ∃ p ys, xs = [V.ref p] ∧ (SqL K H p ys ∨ SqT K H p ys) ∧ Q (V.int ys.length) H) (tCons (tFld K (tVar 0) "bouts") tNil)) (tC (.int 9)))) (tRet (tLst (tCons (tC (.int (-5))) tNil))) tNext)
        (tSeq (tDrop (tBM K "list" rAppend (tFld K (tVar 0) "bouts") (tCons (tTup (tCons (tVar 1) (tCons (tVar 2) tNil))) tNil)))
        (tRet (tLst (tCons (tOp (rI0 fun i j => .int (i - j)) (tCB (fun xs H Q => ∃ p ys, xs = [V.ref p] ∧ (SqL K H p ys ∨ SqT K H p ys) ∧ Q (V.int ys.length) H) (tCons (tFld K (tVar 0) "bouts") tNil)) (tC (.int 1))) tNil)))))) { nx := fun _ H' => Q .non H', rt := Q } [some (.ref a), some (.int (n : Int)), some (.int (m : Int))] H := by
      intro c1
      rw [if_neg c1] at hs
      refine ⟨_, rfl, _, rfl, rfl, _, rfl, ?_⟩
      by_cases c2 : n = m
      · rw [if_pos c2] at hs
        refine if_true_of (decide_eq_true (by rw [c2])) ?_
        exact q.one S hs (L2.Same.refl H)
      · rw [if_neg c2] at hs
        refine if_false_of (decide_eq_false fun z => c2 (by have := V.int.inj z; omega)) ?_
        have hl : (ts.map V.ref).length = s.bouts.length := by rw [List.length_map, S.bouts.len]
        refine ⟨.ref a, rfl, a, C, dx, _, _, rfl, S.ins, T.cl, T.nB, sF_bouts l b, b, _, rfl, .inl (SqL.of S.bouts.lst), rfl, _, rfl, ?_⟩
        by_cases c3 : s.bouts.length = 9
        · rw [if_pos (by omega)] at hs
          refine if_true_of (decide_eq_true (by rw [hl, c3]; rfl)) ?_
          exact q.one S hs (L2.Same.refl H)
        · have c4 : s.bouts.length < 9 := by
            have := g.b9
            omega
          rw [if_neg (by omega)] at hs
          refine if_false_of (decide_eq_false fun z => c3 (by have := V.int.inj z; rw [hl] at this; omega)) ?_
          refine ⟨.ref a, rfl, a, C, dx, _, _, rfl, S.ins, T.cl, T.nB, sF_bouts l b, .inl ⟨rfl, _, SqL.of S.bouts.lst⟩, _, rfl, _, rfl, (by show 2 ≤ sizeLine; decide), fun t nt => ?_⟩
          have sT : Same H (upd H t (.tup [V.int (n : Int), V.int (m : Int)])) := Same.new nt
          have ST := S.same sT
          have ht : (upd H t (.tup [V.int (n : Int), V.int (m : Int)])) t = some (.tup [V.int (n : Int), V.int (m : Int)]) := upd_same
          generalize hH0 : upd H t (.tup [V.int (n : Int), V.int (m : Int)]) = H0 at sT ST ht ⊢
          refine ⟨b, _, _, rfl, rfl, ST.bouts.lst, ?_, ?_⟩
          · rw [hl]
            exact sz (by omega)
          · generalize hH : upd H0 b (.lst (ts.map V.ref ++ [V.ref t])) = H1
            have nba : b ≠ a := ne_of S.bouts.lst S.ins (by intro z; cases z)
            have ntb : t ≠ b := lst_ne_of ht ST.bouts.lst
            have hk : ∀ x o, H0 x = some o → x ≠ b → H1 x = some o := fun x o hx hne => by rw [← hH, upd_ne hne]; exact hx
            have ha : H1 a = some (.ins C dx (sF l b)) := hk _ _ ST.ins nba.symm
            have hbl : H1 b = some (.lst ((ts ++ [t]).map V.ref)) := by rw [← hH, upd_same, List.map_append]; rfl
            have hB : PairsAt H1 b (ts ++ [t]) (s.bouts ++ [(n, m)]) := by
              refine ⟨hbl, by rw [List.length_append, List.length_append, S.bouts.len]; rfl, fun i p hp => ?_⟩
              by_cases d : i < s.bouts.length
              · rw [List.getElem?_append_left d] at hp
                obtain ⟨u, h1, h2⟩ := ST.bouts.at_ i p hp
                exact ⟨u, by rw [List.getElem?_append_left (by rw [S.bouts.len]; exact d)]; exact h1, hk _ _ h2 (lst_ne_of h2 ST.bouts.lst)⟩
              · have hi := lt_of_get hp
                rw [List.length_append] at hi
                have hi : i < s.bouts.length + 1 := hi
                have e : i = s.bouts.length := by omega
                subst e
                rw [List.getElem?_append_right (Nat.le_refl _), Nat.sub_self] at hp
                have ep : (n, m) = p := Option.some.inj hp
                subst ep
                refine ⟨t, ?_, hk _ _ ht ntb⟩
                rw [← S.bouts.len, List.getElem?_append_right (Nat.le_refl _), Nat.sub_self]
                rfl
            refine ⟨.ref a, rfl, a, C, dx, _, _, rfl, ha, T.cl, T.nB, sF_bouts l b, b, _, rfl, .inl (SqL.of hbl), _, _, rfl, rfl, (by show 1 ≤ sizeLine; decide), fun p np => ?_⟩
            have sN : Same H1 (upd H1 p (.lst [V.int ((((ts ++ [t]).map V.ref).length : Int) - 1)])) := Same.new np
            have npb : p ≠ b := fun z => by rw [z, hbl] at np; cases np
            have np0 : H p = none := by
              cases hz : H p with
              | none => rfl
              | some o =>
                have := hk _ _ (sT _ _ hz) npb
                rw [np] at this
                cases this
            refine q _ p l b (ts ++ [t]) ?_ (fun x o hx _ _ h3 => sN _ _ (hk x o (sT _ _ hx) h3)) (.inl rfl) (.inl rfl) np0 ?_
            · rw [hs]
              exact ⟨sN _ _ ha, sN _ _ (hk _ _ ST.wins S.ne), hB.same sN, S.ne⟩
            · rw [hs]
              have e : (((ts ++ [t]).map V.ref).length : Int) - 1 = ((s.bouts.length : Nat) : Int) := by
                rw [List.length_map, List.length_append, S.bouts.len]
                show ((s.bouts.length + 1 : Nat) : Int) - 1 = _
                omega
              rw [show (fun i j => V.int (i - j)) (((ts ++ [t]).map V.ref).length : Int) 1 = V.int ((((ts ++ [t]).map V.ref).length : Int) - 1) from rfl, e, upd_same]
              rfl
    by_cases d1 : n < s.count
    · refine if_false_of (by rw [decide_eq_true d1]; rfl) ?_
      refine ⟨.ref a, rfl, a, dx, _, rfl, S.ins, sF_none l b (by decide +kernel) (by decide +kernel), _, rfl, a, dx, l, b, ts, s, m, rfl, S, _, rfl, ?_⟩
      by_cases d2 : m < s.count
      · refine if_false_of (by rw [decide_eq_true d2]; rfl) ?_
        exact rest (by omega)
      · refine if_true_of (by rw [decide_eq_false d2]; rfl) ?_
        rw [if_pos (by omega)] at hs
        exact q.one S hs (L2.Same.refl H)
    · refine if_true_of (by rw [decide_eq_false d1]; rfl) (if_true_of rfl ?_)
      rw [if_pos (by omega)] at hs
      exact q.one S hs (L2.Same.refl H)
end
end SF
namespace SF
open PySem PySem.Spec PyProof.Rows L2
section
variable {P : Program} {w : World} {K : PySem.W.Frag} {mg : Str → Option Value} {base : Heap} {C : Addr}
/-! ### check -/
theorem step_check (s : Sj10.Standing) (o : List Nat) : Sj10.step s (.check o) = if o.length ≠ s.bouts.length ∨ (o.all fun x => decide (x < 2)) = false then (s, Sj10.ok (-1)) else (s, ⟨(firsts s o : Nat), ni ((List.range s.count).map fun i => s.ends o i)⟩) := rfl
theorem ok_check {f : Addr} {fd : FuncData} {k : Nat} (F : Fun K "check" "Standing.check" sCheck f fd) (T : Txt K mg C) (dO : Def P w K mg base k "is_outcome" ["numbers", "bouts"] (spIsOutcome K)) (dE : Def P w K mg base k "wins_in_the_end" ["wins", "bouts", "outcome"] spEnds)
    (dH : Def P w K mg base k "how_many_first" ["ends"] spHow) : FnOk P w K mg base CX0 (k + 1) f fd ["self", "outcome"] (spM C rCheck) := by
  obtain ⟨t1, g1⟩ := T.wrong
  obtain ⟨fO, fdO, GO, gO, kO, bO⟩ := dO.ex
  obtain ⟨fE, fdE, GE, gE, kE, bE⟩ := dE.ex
  obtain ⟨fH, fdH, GH, gH, kH, bH⟩ := dH.ex
  refine F.ok scCheck (fun vs H Q E h => ?_) (fun cdv A outer s H vs Q E hr h => ?_)
  · obtain ⟨a, dx, l, b, ts, s, c, args, rfl, ⟨o, u, rfl, rfl, _⟩, _⟩ := h
    rfl
  · obtain ⟨a, dx, l, b, ts, s, c, args, rfl, ⟨o, u, rfl, rfl, hu⟩, S, g, q⟩ := h
    have hs := step_check s o
    refine ⟨_, pss_cons (ps_if (pt_not (pt_val (pe_call GO hr (by rfl) gO kO bO .nil pass0 (pa_cons (pv 1) (pa_cons (pe_fld (pv 0) rfl) pa_nil))))) (pss_one (ps_ret (pe_lst (pa_cons (pe_glob (by rfl) g1 (relI _ _)) pa_nil)))) pss_nil)
      (pss_cons (ps_set (i := 2) scCheck.nd rfl (.inl rfl) (pe_call GE hr (by rfl) gE kE bE .nil pass0 (pa_cons (pe_fld (pv 0) rfl) (pa_cons (pe_fld (pv 0) rfl) (pa_cons (pv 1) pa_nil)))))
      (pss_one (ps_ret (pe_op op_cat (pe_lst (pa_cons (pe_call GH hr (by rfl) gH kH bH .nil pass0 (pa_cons (pv 2) pa_nil)) pa_nil)) (pv 2))))), ?_⟩
    refine ⟨_, rfl, .ref a, rfl, a, C, dx, _, _, rfl, S.ins, T.cl, T.nB, sF_bouts l b, u, b, o, _, rfl, hu, S.bouts.lst, fun H1 s1 => ⟨_, rfl, ?_⟩⟩
    have hl : (ts.map V.ref).length = s.bouts.length := by rw [List.length_map, S.bouts.len]
    rw [hl]
    cases c1 : isOut o s.bouts.length with
    | false =>
      refine if_true_of rfl ?_
      have hb : o.length ≠ s.bouts.length ∨ (o.all fun x => decide (x < 2)) = false := by
        unfold isOut at c1
        rcases Bool.and_eq_false_iff.mp c1 with z | z
        · exact .inl (of_decide_eq_false z)
        · exact .inr z
      rw [if_pos hb] at hs
      exact q.one S hs s1
    | true =>
      have c1' := c1
      unfold isOut at c1'
      rw [Bool.and_eq_true, decide_eq_true_iff] at c1'
      have hb : ¬ (o.length ≠ s.bouts.length ∨ (o.all fun x => decide (x < 2)) = false) := by
        rw [c1'.2]
        simp [c1'.1]
      rw [if_neg hb] at hs
      have S1 := S.same s1
      refine if_false_of rfl ⟨.ref a, rfl, a, C, dx, _, _, rfl, S1.ins, T.cl, T.nW, sF_wins l b, .ref a, rfl, a, C, dx, _, _, rfl, S1.ins, T.cl, T.nB, sF_bouts l b, _, rfl, l, b, u, ts, s, o, rfl, S1.wins, S1.bouts, s1 _ _ hu, c1'.1, g, fun H2 e s2 ne he => ?_⟩
      refine ⟨.ref e, rfl, e, s, o, rfl, he, g, fun H3 s3 => ⟨(by show 1 ≤ sizeLine; decide), fun p np => ⟨.ref e, rfl, p, e, _, _, rfl, rfl, upd_same, Same.new np _ _ (s3 _ _ he), ?_, fun r nr => ?_⟩⟩⟩
      · rw [iv_length, endsL_length]
        have := g.c6
        have : s.count ≤ 6 := this
        show 1 + s.count ≤ sizeLine
        exact szle (by omega)
      · have s4 : Same H (upd H3 p (.lst [V.int (firsts s o : Nat)])) := L2.Same.trans s1 (L2.Same.trans s2 (L2.Same.trans s3 (Same.new np)))
        refine q.still S hs (L2.Same.trans s4 (Same.new nr)) (L2.Same.free s4 nr) ?_
        rw [upd_same, endsL_eq g]
        rfl
/-! ### can -/
theorem step_can (s : Sj10.Standing) (i : Nat) : Sj10.step s (.can i) = if s.count ≤ i then (s, Sj10.ok (-2)) else (s, match s.can i with
    | some o => ⟨1, ni o⟩
    | none => ⟨0, ni [(s.why i).getD 0]⟩) := rfl
theorem ok_can {f : Addr} {fd : FuncData} {k : Nat} (F : Fun K "can" "Standing.can" sCan f fd) (T : Txt K mg C) (dT : MDef P w K mg base C k "is_there" ["self", "who"] (spThere C)) (dE : Def P w K mg base k "earliest_outcome" ["wins", "bouts", "who"] spEarliest)
    (dS : Def P w K mg base k "set_in_the_way" ["wins", "bouts", "who"] spSet) : FnOk P w K mg base CX0 (k + 1) f fd ["self", "who"] (spM C rCan) := by
  obtain ⟨t1, g1⟩ := T.there
  obtain ⟨fT, fdT, GT, mT, bT⟩ := dT.ex
  obtain ⟨fE, fdE, GE, gE, kE, bE⟩ := dE.ex
  obtain ⟨fS, fdS, GS, gS, kS, bS⟩ := dS.ex
  refine F.ok scCan (fun vs H Q E h => ?_) (fun cdv A outer s H vs Q E hr h => ?_)
  · obtain ⟨a, dx, l, b, ts, s, c, args, rfl, ⟨i, rfl, rfl⟩, _⟩ := h
    rfl
  · obtain ⟨a, dx, l, b, ts, s, c, args, rfl, ⟨i, rfl, rfl⟩, S, g, q⟩ := h
    have hs := step_can s i
    refine ⟨_, pss_cons (ps_if (pt_not (pt_val (pe_meth (pv 0) T.cl mT GT hr bT .nil pass0 (pa_cons (pv 1) pa_nil)))) (pss_one (ps_ret (pe_lst (pa_cons (pe_glob (by rfl) g1 (relI _ _)) pa_nil)))) pss_nil)
      (pss_cons (ps_set (i := 2) scCan.nd rfl (.inl rfl) (pe_call GE hr (by rfl) gE kE bE .nil pass0 (pa_cons (pe_fld (pv 0) rfl) (pa_cons (pe_fld (pv 0) rfl) (pa_cons (pv 1) pa_nil)))))
      (pss_cons (ps_if (pt_cmpR op_isN (pv 2) pe_non (nomark _)) (pss_one (ps_ret (pe_lst (pa_cons pe_int (pa_cons (pe_call GS hr (by rfl) gS kS bS .nil pass0 (pa_cons (pe_fld (pv 0) rfl) (pa_cons (pe_fld (pv 0) rfl) (pa_cons (pv 1) pa_nil)))) pa_nil))))) pss_nil)
      (pss_one (ps_ret (pe_op op_cat (pe_lst (pa_cons pe_int pa_nil)) (pv 2)))))), ?_⟩
    refine ⟨.ref a, rfl, a, dx, _, rfl, S.ins, sF_none l b (by decide +kernel) (by decide +kernel), _, rfl, a, dx, l, b, ts, s, i, rfl, S, _, rfl, ?_⟩
    by_cases d : i < s.count
    · rw [if_neg (by omega)] at hs
      refine if_false_of (by rw [decide_eq_true d]; rfl) ?_
      refine ⟨.ref a, rfl, a, C, dx, _, _, rfl, S.ins, T.cl, T.nW, sF_wins l b, .ref a, rfl, a, C, dx, _, _, rfl, S.ins, T.cl, T.nB, sF_bouts l b, _, rfl, l, b, ts, s, i, rfl, S.ask g d, fun o ho hlen H1 p s1 hp => ?_, fun hno H1 s1 => ?_⟩
      · rw [ho] at hs
        refine ⟨.ref p, rfl, rfl, _, rfl, if_false_of (decide_eq_false fun z => nomatch z) ?_⟩
        refine ⟨(by show 1 ≤ sizeLine; decide), fun u nu => ⟨.ref p, rfl, u, p, _, _, rfl, rfl, upd_same, Same.new nu _ _ hp, ?_, fun r nr => ?_⟩⟩
        · rw [iv_length, hlen]
          have := g.b9
          show 1 + s.bouts.length ≤ sizeLine
          exact szle (by omega)
        · have s2 : Same H (upd H1 u (.lst [V.int 1])) := L2.Same.trans s1 (Same.new nu)
          refine q.still S hs (L2.Same.trans s2 (Same.new nr)) (L2.Same.free s2 nr) ?_
          rw [upd_same]
          rfl
      · rw [hno] at hs
        have S1 := S.same s1
        refine ⟨.non, rfl, rfl, _, rfl, if_true_of rfl ?_⟩
        refine ⟨.ref a, rfl, a, C, dx, _, _, rfl, S1.ins, T.cl, T.nW, sF_wins l b, .ref a, rfl, a, C, dx, _, _, rfl, S1.ins, T.cl, T.nB, sF_bouts l b, _, rfl, l, b, ts, s, i, rfl, S1.ask g d, hno, fun H2 t ht s2 => ⟨(by show 2 ≤ sizeLine; decide), fun r nr => ?_⟩⟩
        rw [ht] at hs
        have s3 : Same H H2 := L2.Same.trans s1 s2
        refine q.still S hs (L2.Same.trans s3 (Same.new nr)) (L2.Same.free s3 nr) ?_
        rw [upd_same]
        rfl
    · rw [if_pos (by omega)] at hs
      refine if_true_of (by rw [decide_eq_false d]; rfl) ?_
      exact q.one S hs (L2.Same.refl H)
/-! ### odds -/
theorem step_odds (s : Sj10.Standing) (i : Nat) : Sj10.step s (.odds i) = if s.count ≤ i then (s, Sj10.ok (-2)) else (s, ⟨((aloneN s i s.all_ : Nat) : Int), ni [togeN s i s.all_, 2 ^ s.bouts.length]⟩) := rfl
theorem ok_oddsM {f : Addr} {fd : FuncData} {k : Nat} (F : Fun K "odds" "Standing.odds" sOddsM f fd) (T : Txt K mg C) (dT : MDef P w K mg base C k "is_there" ["self", "who"] (spThere C)) (dO : Def P w K mg base k "odds_of" ["wins", "bouts", "who"] spOdds) :
    FnOk P w K mg base CX0 (k + 1) f fd ["self", "who"] (spM C rOdds) := by
  obtain ⟨t1, g1⟩ := T.there
  obtain ⟨fT, fdT, GT, mT, bT⟩ := dT.ex
  obtain ⟨fO, fdO, GO, gO, kO, bO⟩ := dO.ex
  refine F.ok scOddsM (fun vs H Q E h => ?_) (fun cdv A outer s H vs Q E hr h => ?_)
  · obtain ⟨a, dx, l, b, ts, s, c, args, rfl, ⟨i, rfl, rfl⟩, _⟩ := h
    rfl
  · obtain ⟨a, dx, l, b, ts, s, c, args, rfl, ⟨i, rfl, rfl⟩, S, g, q⟩ := h
    have hs := step_odds s i
    refine ⟨_, pss_cons (ps_if (pt_not (pt_val (pe_meth (pv 0) T.cl mT GT hr bT .nil pass0 (pa_cons (pv 1) pa_nil)))) (pss_one (ps_ret (pe_lst (pa_cons (pe_glob (by rfl) g1 (relI _ _)) pa_nil)))) pss_nil)
      (pss_one (ps_ret (pe_call GO hr (by rfl) gO kO bO .nil pass0 (pa_cons (pe_fld (pv 0) rfl) (pa_cons (pe_fld (pv 0) rfl) (pa_cons (pv 1) pa_nil)))))), ?_⟩
    refine ⟨.ref a, rfl, a, dx, _, rfl, S.ins, sF_none l b (by decide +kernel) (by decide +kernel), _, rfl, a, dx, l, b, ts, s, i, rfl, S, _, rfl, ?_⟩
    by_cases d : i < s.count
    · rw [if_neg (by omega)] at hs
      refine if_false_of (by rw [decide_eq_true d]; rfl) ?_
      refine ⟨.ref a, rfl, a, C, dx, _, _, rfl, S.ins, T.cl, T.nW, sF_wins l b, .ref a, rfl, a, C, dx, _, _, rfl, S.ins, T.cl, T.nB, sF_bouts l b, _, rfl, l, b, ts, s, i, rfl, S.ask g d, fun H1 p s1 np hp => ?_⟩
      exact q.still S hs s1 np hp
    · rw [if_pos (by omega)] at hs
      refine if_true_of (by rw [decide_eq_false d]; rfl) ?_
      exact q.one S hs (L2.Same.refl H)
/-! ### needs -/
theorem step_needs (s : Sj10.Standing) (i : Nat) : Sj10.step s (.needs i) = if s.count ≤ i then (s, Sj10.ok (-2)) else (s, match s.needs i with
    | none => Sj10.ok (-6)
    | some n => Sj10.ok ((n : Nat) : Int)) := rfl
theorem ok_needs {f : Addr} {fd : FuncData} {k : Nat} (F : Fun K "needs" "Standing.needs" sNeeds f fd) (T : Txt K mg C) (dT : MDef P w K mg base C k "is_there" ["self", "who"] (spThere C)) (dM : Def P w K mg base k "most_won_in_vain" ["wins", "bouts", "who"] spMost)
    (dL : Def P w K mg base k "bouts_left" ["bouts", "who"] spLeft) : FnOk P w K mg base CX0 (k + 1) f fd ["self", "who"] (spM C rNeeds) := by
  obtain ⟨t1, g1⟩ := T.there
  obtain ⟨t2, g2⟩ := T.sure
  obtain ⟨fT, fdT, GT, mT, bT⟩ := dT.ex
  obtain ⟨fM, fdM, GM, gM, kM, bM⟩ := dM.ex
  obtain ⟨fL, fdL, GL, gL, kL, bL⟩ := dL.ex
  refine F.ok scNeeds (fun vs H Q E h => ?_) (fun cdv A outer s H vs Q E hr h => ?_)
  · obtain ⟨a, dx, l, b, ts, s, c, args, rfl, ⟨i, rfl, rfl⟩, _⟩ := h
    rfl
  · obtain ⟨a, dx, l, b, ts, s, c, args, rfl, ⟨i, rfl, rfl⟩, S, g, q⟩ := h
    have hs := step_needs s i
    refine ⟨_, pss_cons (ps_if (pt_not (pt_val (pe_meth (pv 0) T.cl mT GT hr bT .nil pass0 (pa_cons (pv 1) pa_nil)))) (pss_one (ps_ret (pe_lst (pa_cons (pe_glob (by rfl) g1 (relI _ _)) pa_nil)))) pss_nil)
      (pss_cons (ps_set (i := 2) scNeeds.nd rfl (.inl rfl) (pe_call GM hr (by rfl) gM kM bM .nil pass0 (pa_cons (pe_fld (pv 0) rfl) (pa_cons (pe_fld (pv 0) rfl) (pa_cons (pv 1) pa_nil)))))
      (pss_cons (ps_if (pt_cmpR op_isN (pv 2) pe_non (nomark _)) (pss_one (ps_ret (pe_lst (pa_cons pe_int pa_nil)))) pss_nil)
      (pss_cons (ps_if (pt_cmpR op_eq (pv 2) (pe_call GL hr (by rfl) gL kL bL .nil pass0 (pa_cons (pe_fld (pv 0) rfl) (pa_cons (pv 1) pa_nil))) (nomark _)) (pss_one (ps_ret (pe_lst (pa_cons (pe_glob (by rfl) g2 (relI _ _)) pa_nil)))) pss_nil)
      (pss_one (ps_ret (pe_lst (pa_cons (pe_op op_add (pv 2) pe_int) pa_nil))))))), ?_⟩
    refine ⟨.ref a, rfl, a, dx, _, rfl, S.ins, sF_none l b (by decide +kernel) (by decide +kernel), _, rfl, a, dx, l, b, ts, s, i, rfl, S, _, rfl, ?_⟩
    by_cases d : i < s.count
    · rw [if_neg (by omega), needs_eq] at hs
      refine if_false_of (by rw [decide_eq_true d]; rfl) ?_
      refine ⟨.ref a, rfl, a, C, dx, _, _, rfl, S.ins, T.cl, T.nW, sF_wins l b, .ref a, rfl, a, C, dx, _, _, rfl, S.ins, T.cl, T.nB, sF_bouts l b, _, rfl, l, b, ts, s, i, rfl, S.ask g d, fun H1 s1 => ?_⟩
      unfold needsV at hs
      generalize vains s i s.all_ = m at hs
      cases m with
      | none =>
        refine ⟨.non, rfl, rfl, _, rfl, if_true_of rfl ?_⟩
        exact q.one S hs s1
      | some v =>
        have S1 := S.same s1
        refine ⟨.int (v : Int), rfl, rfl, _, rfl, if_false_of (decide_eq_false fun z => nomatch z) ?_⟩
        refine ⟨.int (v : Int), rfl, .ref a, rfl, a, C, dx, _, _, rfl, S1.ins, T.cl, T.nB, sF_bouts l b, _, rfl, b, ts, s, i, rfl, S1.bouts, g, fun H2 s2 => ⟨rfl, _, rfl, ?_⟩⟩
        have s3 : Same H H2 := L2.Same.trans s1 s2
        by_cases e : v = s.left i
        · have hs : Sj10.step s (.needs i) = (s, Sj10.ok (-6)) := by
            rw [hs]
            show (s, match (if v = s.left i then none else some (v + 1)) with
              | none => Sj10.ok (-6)
              | some n => Sj10.ok ((n : Nat) : Int)) = _
            rw [if_pos e]
          refine if_true_of (decide_eq_true (by rw [e])) ?_
          exact q.one S hs s3
        · have hs : Sj10.step s (.needs i) = (s, Sj10.ok (((v + 1 : Nat)) : Int)) := by
            rw [hs]
            show (s, match (if v = s.left i then none else some (v + 1)) with
              | none => Sj10.ok (-6)
              | some n => Sj10.ok ((n : Nat) : Int)) = _
            rw [if_neg e]
          refine if_false_of (decide_eq_false fun z => e (by have := V.int.inj z; omega)) ?_
          refine ⟨.int (v : Int), rfl, _, _, rfl, rfl, ?_⟩
          exact q.one S hs s3
    · rw [if_pos (by omega)] at hs
      refine if_true_of (by rw [decide_eq_false d]; rfl) ?_
      exact q.one S hs (L2.Same.refl H)
end
end SF
namespace SF
open PySem PySem.Spec PyProof.Rows L2
open Sj10 (Call Standing)
abbrev sAns : Stmt := top 34
abbrev sPlace : Stmt := top 35
abbrev sAnsOf : Stmt := top 36
theorem scAns : FnScope ["calls", "standing", "told", "place", "behind", "numbers"] ["calls"] (defScope sAns) := ⟨rfl, rfl, rfl, by decide +kernel, rfl, by decide +kernel, by decide +kernel⟩
theorem scPlace : FnScope ["calls", "place", "call", "behind"] ["calls", "place"] (defScope sPlace) := ⟨rfl, rfl, rfl, by decide +kernel, rfl, by decide +kernel, by decide +kernel⟩
theorem scAnsOf : FnScope ["standing", "call", "handed"] ["standing", "call", "handed"] (defScope sAnsOf) := ⟨rfl, rfl, rfl, by decide +kernel, rfl, by decide +kernel, by decide +kernel⟩
/-! ### what a call leaves is a standing as it can be -/
theorem good_step {s : Standing} (g : Good s) (c : Call) : Good (Sj10.step s c).1 := by
  have g0 : Good Sj10.init := ⟨by decide, by decide, fun w hw => (nomatch hw), fun b hb => (nomatch hb)⟩
  cases c with
  | begins => exact g0
  | wrestler n =>
    rw [step_wrestler]
    by_cases c1 : 15 < n
    · rw [if_pos c1]; exact g
    · rw [if_neg c1]
      by_cases c2 : 6 ≤ s.count
      · rw [if_pos c2]; exact g
      · rw [if_neg c2]
        have hl : (s.wins ++ [n]).length = s.wins.length + 1 := List.length_append
        refine ⟨?_, g.b9, fun x hx => ?_, fun b hb => ?_⟩
        · show (s.wins ++ [n]).length ≤ 6
          have : ¬ 6 ≤ s.wins.length := c2
          omega
        · rcases List.mem_append.mp hx with z | z
          · exact g.w15 x z
          · rw [List.mem_singleton.mp z]; omega
        · have := g.pr b hb
          show b.1 < (s.wins ++ [n]).length ∧ b.2 < (s.wins ++ [n]).length ∧ b.1 ≠ b.2
          rw [hl]
          exact ⟨by omega, by omega, this.2.2⟩
  | bout n m =>
    rw [step_bout]
    by_cases c1 : s.count ≤ n ∨ s.count ≤ m
    · rw [if_pos c1]; exact g
    · rw [if_neg c1]
      by_cases c2 : n = m
      · rw [if_pos c2]; exact g
      · rw [if_neg c2]
        by_cases c3 : 9 ≤ s.bouts.length
        · rw [if_pos c3]; exact g
        · rw [if_neg c3]
          refine ⟨g.c6, ?_, g.w15, fun b hb => ?_⟩
          · show (s.bouts ++ [(n, m)]).length ≤ 9
            rw [List.length_append]
            show s.bouts.length + 1 ≤ 9
            omega
          · rcases List.mem_append.mp hb with z | z
            · exact g.pr b z
            · rw [List.mem_singleton.mp z]
              have : ¬ (s.wins.length ≤ n ∨ s.wins.length ≤ m) := c1
              exact ⟨by show n < s.wins.length; omega, by show m < s.wins.length; omega, c2⟩
  | check o =>
    rw [step_check]
    split <;> exact g
  | can i =>
    rw [step_can]
    split <;> exact g
  | odds i =>
    rw [step_odds]
    split <;> exact g
  | needs i =>
    rw [step_needs]
    split <;> exact g
/-! ### slices -/
theorem cut_mid {A h B : List V} {i j : Nat} (hi : i = A.length) (hj : j = A.length + h.length) : cutV (A ++ (h ++ B)) (some (i : Int)) (some (j : Int)) = h := by
  unfold cutV
  rw [HT.sIx_nat, HT.sIx_nat]
  have l1 : (A ++ (h ++ B)).length = A.length + (h.length + B.length) := by rw [List.length_append, List.length_append]
  rw [l1, Nat.min_eq_left (by omega), Nat.min_eq_left (by omega), hi, hj, List.drop_left, show A.length + h.length - A.length = h.length by omega, List.take_left]
theorem cut_tail (x : V) (r : List V) : cutV (x :: r) (some 1) none = r := by
  unfold cutV
  rw [show HT.sIx (x :: r).length 0 (some 1) = min 1 (x :: r).length from HT.sIx_nat (x :: r).length 0 1, HT.sIx_none, List.length_cons, Nat.min_eq_left (by omega)]
  show List.take (r.length + 1 - 1) r = r
  rw [Nat.add_sub_cancel]
  exact List.take_length
theorem get_mid {α : Type} {A B : List α} {x : α} {i : Nat} (hi : i = A.length) : (A ++ x :: B)[i]? = some x := by
  rw [hi, List.getElem?_append_right (Nat.le_refl _), Nat.sub_self]
  rfl
section
variable {P : Program} {w : World} {K : PySem.W.Frag} {mg : Str → Option Value} {base : Heap} {C : Addr}
/-! ### place_behind -/
def plain : Call → Nat
  | .begins => 0
  | .wrestler _ => 1
  | .bout _ _ => 2
  | _ => 1
/-- the tuple PLAIN_NUMBERS -/
def PlainAt (K : PySem.W.Frag) (mg : Str → Option Value) : Prop := ∃ tp, mg "PLAIN_NUMBERS" = some (.ref tp) ∧ ∀ H, SqT K H tp (iv [0, 1, 2, 1, 1, 1, 1])
theorem enc_len (c : Call) : (enc c).length = (match c with | .check o => 2 + o.length | c => 1 + plain c) := by
  cases c with
  | check o =>
    show o.length + 1 + 1 = 2 + o.length
    omega
  | _ => rfl
def spPlace (K : PySem.W.Frag) : Sp := fun vs H Q _ => ∃ (r : Addr) (A B : List Nat) (c : Call), vs = [.ref r, .int (A.length : Int)] ∧ SqL K H r (iv (A ++ (enc c ++ B))) ∧ Q (.int ((A.length + (enc c).length : Nat) : Int)) H
theorem ok_place {f : Addr} {fd : FuncData} {k : Nat} (F : Fun K "place_behind" "place_behind" sPlace f fd) (hP : PlainAt K mg) (hC : ∃ t, mg "CHECK" = some (.int 3 t)) : FnOk P w K mg base CX0 (k + 1) f fd ["calls", "place"] (spPlace K) := by
  obtain ⟨tp, gP, sP⟩ := hP
  obtain ⟨tc, gC⟩ := hC
  refine F.ok scPlace (fun vs H Q E h => ?_) (fun cdv A outer s H vs Q E hr h => ?_)
  · obtain ⟨r, A, B, c, rfl, _⟩ := h
    rfl
  · obtain ⟨r, A, B, c, rfl, hS, q⟩ := h
    refine ⟨_, pss_cons (ps_set (i := 2) scPlace.nd rfl (.inl rfl) (pe_ix ix_list (pv 0) (pv 1) (fun _ _ => rfl)))
      (pss_cons (ps_set (i := 3) scPlace.nd rfl (.inl rfl) (pe_op op_add (pe_op op_add (pv 1) pe_int) (pe_ix ix_tup (pe_glob (v := .ref tp) (by rfl) gP rfl) (pv 2) (fun _ _ => rfl))))
      (pss_cons (ps_if (pt_cmpR op_eq (pv 2) (pe_glob (by rfl) gC (relI _ _)) (nomark _)) (pss_one (ps_ret (pe_op op_add (pv 3) (pe_ix ix_list (pv 0) (pe_op op_add (pv 1) pe_int) (fun _ _ => rfl))))) pss_nil)
      (pss_one (ps_ret (pv 3))))), ?_⟩
    have h0 : (A ++ (enc c ++ B))[A.length]? = some (code c) := get_mid (x := code c) (B := hand c ++ B) rfl
    have hpl : ([0, 1, 2, 1, 1, 1, 1] : List Nat)[code c]? = some (plain c) := by cases c <;> rfl
    refine ⟨.ref r, rfl, _, rfl, r, _, _, _, rfl, rfl, hS, atI_nat (iv_get h0), ?_⟩
    refine ⟨_, rfl, _, _, rfl, rfl, _, rfl, tp, _, _, _, rfl, rfl, sP H, atI_nat (iv_get hpl), _, _, rfl, rfl, ?_⟩
    refine ⟨_, rfl, rfl, _, rfl, ?_⟩
    cases c with
    | check o =>
      refine if_true_of rfl ?_
      have h1 : (A ++ (enc (.check o) ++ B))[A.length + 1]? = some o.length := by
        show (A ++ 3 :: (o.length :: (o ++ B)))[A.length + 1]? = _
        rw [show A ++ 3 :: (o.length :: (o ++ B)) = (A ++ [3]) ++ o.length :: (o ++ B) by rw [List.append_assoc]; rfl]
        exact get_mid (by rw [List.length_append]; rfl)
      refine ⟨_, rfl, .ref r, rfl, _, rfl, _, _, rfl, rfl, r, _, ((A.length + 1 : Nat) : Int), _, rfl, rfl, hS, atI_nat (iv_get h1), _, _, rfl, rfl, ?_⟩
      have e : ((A.length : Int) + 1 + ((plain (.check o) : Nat) : Int)) + ((o.length : Nat) : Int) = ((A.length + (enc (.check o)).length : Nat) : Int) := by
        rw [enc_len]
        show ((A.length : Int) + 1 + ((1 : Nat) : Int)) + ((o.length : Nat) : Int) = ((A.length + (2 + o.length) : Nat) : Int)
        omega
      rw [← e] at q
      exact q
    | begins =>
      refine if_false_of rfl ⟨_, rfl, ?_⟩
      have e : ((A.length : Int) + 1 + ((plain .begins : Nat) : Int)) = ((A.length + (enc .begins).length : Nat) : Int) := by
        show ((A.length : Int) + 1 + ((0 : Nat) : Int)) = ((A.length + 1 : Nat) : Int)
        omega
      rw [← e] at q
      exact q
    | wrestler n =>
      refine if_false_of rfl ⟨_, rfl, ?_⟩
      have e : ((A.length : Int) + 1 + ((plain (.wrestler n) : Nat) : Int)) = ((A.length + (enc (.wrestler n)).length : Nat) : Int) := by
        show ((A.length : Int) + 1 + ((1 : Nat) : Int)) = ((A.length + 2 : Nat) : Int)
        omega
      rw [← e] at q
      exact q
    | bout n m =>
      refine if_false_of rfl ⟨_, rfl, ?_⟩
      have e : ((A.length : Int) + 1 + ((plain (.bout n m) : Nat) : Int)) = ((A.length + (enc (.bout n m)).length : Nat) : Int) := by
        show ((A.length : Int) + 1 + ((2 : Nat) : Int)) = ((A.length + 3 : Nat) : Int)
        omega
      rw [← e] at q
      exact q
    | can n =>
      refine if_false_of rfl ⟨_, rfl, ?_⟩
      have e : ((A.length : Int) + 1 + ((plain (.can n) : Nat) : Int)) = ((A.length + (enc (.can n)).length : Nat) : Int) := by
        show ((A.length : Int) + 1 + ((1 : Nat) : Int)) = ((A.length + 2 : Nat) : Int)
        omega
      rw [← e] at q
      exact q
    | odds n =>
      refine if_false_of rfl ⟨_, rfl, ?_⟩
      have e : ((A.length : Int) + 1 + ((plain (.odds n) : Nat) : Int)) = ((A.length + (enc (.odds n)).length : Nat) : Int) := by
        show ((A.length : Int) + 1 + ((1 : Nat) : Int)) = ((A.length + 2 : Nat) : Int)
        omega
      rw [← e] at q
      exact q
    | needs n =>
      refine if_false_of rfl ⟨_, rfl, ?_⟩
      have e : ((A.length : Int) + 1 + ((plain (.needs n) : Nat) : Int)) = ((A.length + (enc (.needs n)).length : Nat) : Int) := by
        show ((A.length : Int) + 1 + ((1 : Nat) : Int)) = ((A.length + 2 : Nat) : Int)
        omega
      rw [← e] at q
      exact q
/-! ### answer_of_call -/
structure Consts (mg : Str → Option Value) : Prop where
  begins : ∃ t, mg "BEGINS" = some (.int 0 t)
  wrestler : ∃ t, mg "WRESTLER" = some (.int 1 t)
  bout : ∃ t, mg "BOUT" = some (.int 2 t)
  check : ∃ t, mg "CHECK" = some (.int 3 t)
  can : ∃ t, mg "CAN" = some (.int 4 t)
  odds : ∃ t, mg "ODDS" = some (.int 5 t)
def spAnsOf (C : Addr) : Sp := fun vs H Q _ => ∃ (a h dx l b : Addr) (ts : List Addr) (s : Standing) (c : Call), vs = [.ref a, .int ((code c : Nat) : Int), .ref h] ∧ H h = some (.lst (iv (hand c))) ∧ StAt C H a dx l b ts s ∧ Good s ∧ Done C H a dx l b s c Q
theorem ok_ansOf {f : Addr} {fd : FuncData} {k : Nat} (F : Fun K "answer_of_call" "answer_of_call" sAnsOf f fd) (T : Txt K mg C) (N : Consts mg)
    (d0 : MDef P w K mg base C k "begins" ["self"] (spM C rBegins)) (d1 : MDef P w K mg base C k "wrestler" ["self", "wins"] (spM C rWrestler)) (d2 : MDef P w K mg base C k "bout" ["self", "one", "other"] (spM C rBout)) (d3 : MDef P w K mg base C k "check" ["self", "outcome"] (spM C rCheck))
    (d4 : MDef P w K mg base C k "can" ["self", "who"] (spM C rCan)) (d5 : MDef P w K mg base C k "odds" ["self", "who"] (spM C rOdds)) (d6 : MDef P w K mg base C k "needs" ["self", "who"] (spM C rNeeds)) : FnOk P w K mg base CX0 (k + 1) f fd ["standing", "call", "handed"] (spAnsOf C) := by
  obtain ⟨f0, fd0, G0, m0, b0⟩ := d0.ex
  obtain ⟨f1, fd1, G1, m1, b1⟩ := d1.ex
  obtain ⟨f2, fd2, G2, m2, b2⟩ := d2.ex
  obtain ⟨f3, fd3, G3, m3, b3⟩ := d3.ex
  obtain ⟨f4, fd4, G4, m4, b4⟩ := d4.ex
  obtain ⟨f5, fd5, G5, m5, b5⟩ := d5.ex
  obtain ⟨f6, fd6, G6, m6, b6⟩ := d6.ex
  obtain ⟨t0, g0⟩ := N.begins
  obtain ⟨t1, g1⟩ := N.wrestler
  obtain ⟨t2, g2⟩ := N.bout
  obtain ⟨t3, g3⟩ := N.check
  obtain ⟨t4, g4⟩ := N.can
  obtain ⟨t5, g5⟩ := N.odds
  refine F.ok scAnsOf (fun vs H Q E h => ?_) (fun cdv A outer s H vs Q E hr h => ?_)
  · obtain ⟨a, h, dx, l, b, ts, s, c, rfl, _⟩ := h
    rfl
  · obtain ⟨a, h, dx, l, b, ts, s, c, rfl, hh, S, g, q⟩ := h
    refine ⟨_, pss_cons (ps_if (pt_cmpR op_eq (pv 1) (pe_glob (by rfl) g0 (relI _ _)) (nomark _)) (pss_one (ps_ret (pe_meth0 (pv 0) T.cl m0 G0 hr b0 .nil pass0))) pss_nil)
      (pss_cons (ps_if (pt_cmpR op_eq (pv 1) (pe_glob (by rfl) g1 (relI _ _)) (nomark _)) (pss_one (ps_ret (pe_meth (pv 0) T.cl m1 G1 hr b1 .nil pass0 (pa_cons (pe_ix ix_list (pv 2) pe_int (fun _ _ => rfl)) pa_nil)))) pss_nil)
      (pss_cons (ps_if (pt_cmpR op_eq (pv 1) (pe_glob (by rfl) g2 (relI _ _)) (nomark _)) (pss_one (ps_ret (pe_meth (pv 0) T.cl m2 G2 hr b2 .nil pass0 (pa_cons (pe_ix ix_list (pv 2) pe_int (fun _ _ => rfl)) (pa_cons (pe_ix ix_list (pv 2) pe_int (fun _ _ => rfl)) pa_nil))))) pss_nil)
      (pss_cons (ps_if (pt_cmpR op_eq (pv 1) (pe_glob (by rfl) g3 (relI _ _)) (nomark _)) (pss_one (ps_ret (pe_meth (pv 0) T.cl m3 G3 hr b3 .nil pass0 (pa_cons (pe_slice sl_list (pv 2) (po_some pe_int) po_none) pa_nil)))) pss_nil)
      (pss_cons (ps_if (pt_cmpR op_eq (pv 1) (pe_glob (by rfl) g4 (relI _ _)) (nomark _)) (pss_one (ps_ret (pe_meth (pv 0) T.cl m4 G4 hr b4 .nil pass0 (pa_cons (pe_ix ix_list (pv 2) pe_int (fun _ _ => rfl)) pa_nil)))) pss_nil)
      (pss_cons (ps_if (pt_cmpR op_eq (pv 1) (pe_glob (by rfl) g5 (relI _ _)) (nomark _)) (pss_one (ps_ret (pe_meth (pv 0) T.cl m5 G5 hr b5 .nil pass0 (pa_cons (pe_ix ix_list (pv 2) pe_int (fun _ _ => rfl)) pa_nil)))) pss_nil)
      (pss_one (ps_ret (pe_meth (pv 0) T.cl m6 G6 hr b6 .nil pass0 (pa_cons (pe_ix ix_list (pv 2) pe_int (fun _ _ => rfl)) pa_nil))))))))), ?_⟩
    cases c with
    | begins =>
      refine ⟨_, rfl, rfl, _, rfl, if_true_of rfl ?_⟩
      exact ⟨.ref a, rfl, a, dx, _, rfl, S.ins, sF_none l b (by decide +kernel) (by decide +kernel), a, dx, l, b, ts, s, .begins, [], rfl, ⟨rfl, rfl⟩, S, g, q⟩
    | wrestler n =>
      refine ⟨_, rfl, rfl, _, rfl, if_false_of rfl ⟨_, rfl, rfl, _, rfl, if_true_of rfl ?_⟩⟩
      exact ⟨.ref a, rfl, a, dx, _, rfl, S.ins, sF_none l b (by decide +kernel) (by decide +kernel), .ref h, rfl, h, _, 0, _, rfl, rfl, SqL.of hh, atI_nat (j := 0) rfl, a, dx, l, b, ts, s, .wrestler n, [.int (n : Int)], rfl, ⟨n, rfl, rfl⟩, S, g, q⟩
    | bout n m =>
      refine ⟨_, rfl, rfl, _, rfl, if_false_of rfl ⟨_, rfl, rfl, _, rfl, if_false_of rfl ⟨_, rfl, rfl, _, rfl, if_true_of rfl ?_⟩⟩⟩
      exact ⟨.ref a, rfl, a, dx, _, rfl, S.ins, sF_none l b (by decide +kernel) (by decide +kernel), .ref h, rfl, h, _, 0, _, rfl, rfl, SqL.of hh, atI_nat (j := 0) rfl, .ref h, rfl, h, _, 1, _, rfl, rfl, SqL.of hh, atI_nat (j := 1) rfl,
        a, dx, l, b, ts, s, .bout n m, [.int (n : Int), .int (m : Int)], rfl, ⟨n, m, rfl, rfl⟩, S, g, q⟩
    | check o =>
      refine ⟨_, rfl, rfl, _, rfl, if_false_of rfl ⟨_, rfl, rfl, _, rfl, if_false_of rfl ⟨_, rfl, rfl, _, rfl, if_false_of rfl ⟨_, rfl, rfl, _, rfl, if_true_of rfl ?_⟩⟩⟩⟩
      refine ⟨.ref a, rfl, a, dx, _, rfl, S.ins, sF_none l b (by decide +kernel) (by decide +kernel), .ref h, rfl, 1, rfl, h, _, rfl, SqL.of hh, fun u nu => ?_⟩
      have su : Same H (upd H u (.lst (cutV (iv (hand (.check o))) (some 1) none))) := Same.new nu
      refine ⟨a, dx, l, b, ts, s, .check o, [.ref u], rfl, ⟨o, u, rfl, rfl, ?_⟩, S.same su, g, q.later su⟩
      rw [upd_same]
      show some (HO.lst (cutV (V.int (o.length : Int) :: iv o) (some 1) none)) = _
      rw [cut_tail]
    | can n =>
      refine ⟨_, rfl, rfl, _, rfl, if_false_of rfl ⟨_, rfl, rfl, _, rfl, if_false_of rfl ⟨_, rfl, rfl, _, rfl, if_false_of rfl ⟨_, rfl, rfl, _, rfl, if_false_of rfl ⟨_, rfl, rfl, _, rfl, if_true_of rfl ?_⟩⟩⟩⟩⟩
      exact ⟨.ref a, rfl, a, dx, _, rfl, S.ins, sF_none l b (by decide +kernel) (by decide +kernel), .ref h, rfl, h, _, 0, _, rfl, rfl, SqL.of hh, atI_nat (j := 0) rfl, a, dx, l, b, ts, s, .can n, [.int (n : Int)], rfl, ⟨n, rfl, rfl⟩, S, g, q⟩
    | odds n =>
      refine ⟨_, rfl, rfl, _, rfl, if_false_of rfl ⟨_, rfl, rfl, _, rfl, if_false_of rfl ⟨_, rfl, rfl, _, rfl, if_false_of rfl ⟨_, rfl, rfl, _, rfl, if_false_of rfl ⟨_, rfl, rfl, _, rfl, if_false_of rfl ⟨_, rfl, rfl, _, rfl, if_true_of rfl ?_⟩⟩⟩⟩⟩⟩
      exact ⟨.ref a, rfl, a, dx, _, rfl, S.ins, sF_none l b (by decide +kernel) (by decide +kernel), .ref h, rfl, h, _, 0, _, rfl, rfl, SqL.of hh, atI_nat (j := 0) rfl, a, dx, l, b, ts, s, .odds n, [.int (n : Int)], rfl, ⟨n, rfl, rfl⟩, S, g, q⟩
    | needs n =>
      refine ⟨_, rfl, rfl, _, rfl, if_false_of rfl ⟨_, rfl, rfl, _, rfl, if_false_of rfl ⟨_, rfl, rfl, _, rfl, if_false_of rfl ⟨_, rfl, rfl, _, rfl, if_false_of rfl ⟨_, rfl, rfl, _, rfl, if_false_of rfl ⟨_, rfl, rfl, _, rfl, if_false_of rfl ?_⟩⟩⟩⟩⟩⟩
      exact ⟨.ref a, rfl, a, dx, _, rfl, S.ins, sF_none l b (by decide +kernel) (by decide +kernel), .ref h, rfl, h, _, 0, _, rfl, rfl, SqL.of hh, atI_nat (j := 0) rfl, a, dx, l, b, ts, s, .needs n, [.int (n : Int)], rfl, ⟨n, rfl, rfl⟩, S, g, q⟩
end
end SF
namespace SF
open PySem PySem.Spec PyProof.Rows L2
open Sj10 (Call Standing)
theorem StAt.off {C : Addr} {H : Hp} {a dx l b T : Addr} {ts : List Addr} {s : Standing} {xs : List V} {o : HO} (S : StAt C H a dx l b ts s) (hT : H T = some (.lst xs)) (h1 : T ≠ l) (h2 : T ≠ b) : StAt C (upd H T o) a dx l b ts s := by
  have nTa : T ≠ a := ne_of hT S.ins (by intro z; cases z)
  refine ⟨?_, ?_, ⟨?_, S.bouts.len, fun i p hp => ?_⟩, S.ne⟩
  · rw [upd_ne nTa.symm]; exact S.ins
  · rw [upd_ne h1.symm]; exact S.wins
  · rw [upd_ne h2.symm]; exact S.bouts.lst
  · obtain ⟨t, e1, e2⟩ := S.bouts.at_ i p hp
    exact ⟨t, e1, by rw [upd_ne (lst_ne_of e2 hT)]; exact e2⟩
theorem told_cons (a : List Int) (r : List (List Int)) : PyFlat.told (a :: r) = ((a.length : Int) :: a) ++ PyFlat.told r := List.flatMap_cons
theorem encs_snoc (pre : List Call) (c : Call) : (encs (pre ++ [c])).length = (encs pre).length + (enc c).length := by
  unfold encs
  rw [List.flatMap_append, List.length_append, List.flatMap_cons, List.flatMap_nil, List.append_nil]
theorem encs_mid (pre : List Call) (c : Call) (rest : List Call) : encs (pre ++ c :: rest) = encs pre ++ (enc c ++ encs rest) := by
  unfold encs
  rw [List.flatMap_append, List.flatMap_cons]
section
variable {P : Program} {w : World} {K : PySem.W.Frag} {mg : Str → Option Value} {base : Heap} {C : Addr}
def spAns (K : PySem.W.Frag) : Sp := fun vs H Q _ => ∃ (r : Addr) (cs : List Call), vs = [.ref r] ∧ SqL K H r (iv (encs cs)) ∧ (PyFlat.told (play Sj10.init cs)).length ≤ 10000000 ∧
  ∀ (H' : Hp) (p : Addr), H' p = some (.lst ((PyFlat.told (play Sj10.init cs)).map V.int)) → Q (.ref p) H'
theorem ok_ans {f fI : Addr} {fd fdI : FuncData} {k : Nat} (hk : 2 ≤ k) (F : Fun K "answers" "answers" sAns f fd) (T : Txt K mg C) (M : Mk K C fI) (GI : FnOk P w K mg base CX0 1 fI fdI ["self"] (spInit C)) (bI : Binds K fdI ["self"] [])
    (dP : Def P w K mg base k "place_behind" ["calls", "place"] (spPlace K)) (dA : Def P w K mg base k "answer_of_call" ["standing", "call", "handed"] (spAnsOf C)) : FnOk P w K mg base CX0 (k + 1) f fd ["calls"] (spAns K) := by
  obtain ⟨fP, fdP, GP, gP, kP, bP⟩ := dP.ex
  obtain ⟨fA, fdA, GA, gA, kA, bA⟩ := dA.ex
  refine F.ok scAns (fun vs H Q E h => ?_) (fun cdv A outer s H vs Q E hr h => ?_)
  · obtain ⟨r, cs, rfl, _⟩ := h
    rfl
  · obtain ⟨r, cs, rfl, hS, hlong, q⟩ := h
    refine ⟨_, pss_cons (ps_set (i := 1) scAns.nd rfl (.inl rfl) (pe_make0 M GI (hr.mono hk) rfl T.gC bI .nil pass0))
      (pss_cons (ps_set (i := 2) scAns.nd rfl (.inl rfl) (pe_lst pa_nil))
      (pss_cons (ps_set (i := 3) scAns.nd rfl (.inl rfl) pe_int)
      (pss_cons (ps_while PassesOwn.never (pt_cmpR op_lt (pv 3) (pe_callB call_len_seq (by rfl) T.len PySem.boot_len (pa_cons (pv 0) pa_nil)) (nomark _))
        (pss_cons (ps_set (i := 4) scAns.nd rfl (.inl rfl) (pe_call GP hr (by rfl) gP kP bP .nil pass0 (pa_cons (pv 0) (pa_cons (pv 3) pa_nil))))
        (pss_cons (ps_set (i := 5) scAns.nd rfl (.inl rfl) (pe_call GA hr (by rfl) gA kA bA .nil pass0 (pa_cons (pv 1) (pa_cons (pe_ix ix_list (pv 0) (pv 3) (fun _ _ => rfl)) (pa_cons (pe_slice sl_list (pv 0) (po_some (pe_op op_add (pv 3) pe_int)) (po_some (pv 4))) pa_nil)))))
        (pss_cons (ps_expr (pe_bm PySem.F.plainAttrs_list PySem.F.slot_list_append PySem.F.type_list_append mt_append (pv 2) (pa_cons (pe_callB call_len_seq (by rfl) T.len PySem.boot_len (pa_cons (pv 5) pa_nil)) pa_nil)))
        (pss_cons (ps_expr (pe_bm PySem.F.plainAttrs_list PySem.F.slot_list_extend PySem.F.type_list_extend mt_extend (pv 2) (pa_cons (pv 5) pa_nil)))
        (pss_one (ps_set (i := 3) scAns.nd rfl (.inl rfl) (pv 4))))))))
      (pss_one (ps_ret (pv 2)))))), ?_⟩
    -- standing = Standing()
    intro x dx nx nd ne
    refine ⟨x, dx, rfl, upd_same, fun H1 l0 b0 S0 nl nb kp => ⟨rfl, ?_⟩⟩
    have s1 : Same H H1 := Same.made nx nd kp
    have free0 : ∀ u, (upd (upd H dx (.own x)) x (.ins C dx [])) u = none → H u = none := fun u hu => by
      have n1 : u ≠ x := fun z => by rw [z, upd_same] at hu; cases hu
      have n2 : u ≠ dx := fun z => by rw [z, upd_ne ne, upd_same] at hu; cases hu
      rw [upd_ne n1, upd_ne n2] at hu
      exact hu
    have nl0 := free0 _ nl
    have nb0 := free0 _ nb
    -- told = [], place = 0
    refine ⟨Nat.zero_le _, fun T0 nT => ?_⟩
    have nT0 : H T0 = none := L2.Same.free s1 nT
    have S1 := S0.same (Same.new (o := .lst []) nT)
    have nTl : T0 ≠ l0 := fun z => by rw [z, S0.wins] at nT; cases nT
    have nTb : T0 ≠ b0 := fun z => by rw [z, S0.bouts.lst] at nT; cases nT
    refine ⟨fun m σ H' => ∃ (pre rest : List Call) (part : List Int) (s : Standing) (l b : Addr) (ts : List Addr) (v4 v5 : Option V), cs = pre ++ rest ∧ m = rest.length ∧ σ = [some (.ref r), some (.ref x), some (.ref T0), some (.int (((encs pre).length : Nat) : Int)), v4, v5] ∧
      Same H H' ∧ StAt C H' x dx l b ts s ∧ Good s ∧ H l = none ∧ H b = none ∧ H' T0 = some (.lst (part.map V.int)) ∧ T0 ≠ l ∧ T0 ≠ b ∧ part ++ PyFlat.told (play s rest) = PyFlat.told (play Sj10.init cs),
      ⟨cs.length, [], cs, [], ⟨[], []⟩, l0, b0, [], none, none, rfl, rfl, rfl, L2.Same.trans s1 (Same.new nT), S1, ⟨by decide, by decide, fun w hw => (nomatch hw), fun b hb => (nomatch hb)⟩, nl0, nb0, upd_same, nTl, nTb, rfl⟩, ?_⟩
    rintro m σ H2 ⟨pre, rest, part, s, l, b, ts, v4, v5, hcs, rfl, rfl, s2, S, g, hl0, hb0, hT, hTl, hTb, heq⟩
    have hS2 := s2.seq hS
    refine ⟨_, rfl, .ref r, rfl, r, _, rfl, .inl hS2, _, _, rfl, rfl, _, rfl, ?_⟩
    cases rest with
    | nil =>
      rw [List.append_nil] at hcs
      subst hcs
      refine if_false_of (decide_eq_false (by rw [iv_length]; omega)) ⟨_, rfl, q H2 T0 ?_⟩
      have e : PyFlat.told (play s []) = [] := rfl
      rw [e, List.append_nil] at heq
      rw [← heq]
      exact hT
    | cons c rest =>
      have henc := encs_mid pre c rest
      rw [← hcs] at henc
      rw [henc] at hS2
      have hpos : 0 < (enc c).length := Nat.succ_pos _
      refine if_true_of (decide_eq_true ?_) ?_
      · rw [iv_length, henc, List.length_append, List.length_append]
        omega
      refine ⟨fun σ' H' => ∃ (pre rest' : List Call) (part : List Int) (s : Standing) (l b : Addr) (ts : List Addr) (v4 v5 : Option V), cs = pre ++ rest' ∧ rest.length = rest'.length ∧ σ' = [some (.ref r), some (.ref x), some (.ref T0), some (.int (((encs pre).length : Nat) : Int)), v4, v5] ∧
        Same H H' ∧ StAt C H' x dx l b ts s ∧ Good s ∧ H l = none ∧ H b = none ∧ H' T0 = some (.lst (part.map V.int)) ∧ T0 ≠ l ∧ T0 ≠ b ∧ part ++ PyFlat.told (play s rest') = PyFlat.told (play Sj10.init cs),
        fun σ' H' hN => ⟨rest.length, Nat.lt_succ_self _, hN⟩, ?_⟩
      -- behind = place_behind(calls, place)
      refine ⟨.ref r, rfl, _, rfl, r, encs pre, encs rest, c, rfl, hS2, ?_⟩
      -- numbers = answer_of_call(standing, calls[place], calls[place + 1:behind])
      have h0 : (encs pre ++ (enc c ++ encs rest))[(encs pre).length]? = some (code c) := get_mid (x := code c) (B := hand c ++ encs rest) rfl
      refine ⟨.ref x, rfl, .ref r, rfl, _, rfl, r, _, _, _, rfl, rfl, hS2, atI_nat (iv_get h0), .ref r, rfl, _, rfl, _, _, rfl, rfl, (((encs pre).length + 1 : Nat) : Int), rfl, _, rfl, (((encs pre).length + (enc c).length : Nat) : Int), rfl, r, _, rfl, hS2, fun u nu => ?_⟩
      have hcut : cutV (iv (encs pre ++ (enc c ++ encs rest))) (some (((encs pre).length + 1 : Nat) : Int)) (some (((encs pre).length + (enc c).length : Nat) : Int)) = iv (hand c) := by
        have e : iv (encs pre ++ (enc c ++ encs rest)) = iv (encs pre ++ [code c]) ++ (iv (hand c) ++ iv (encs rest)) := by
          rw [← iv_append, ← iv_append, List.append_assoc]
          rfl
        rw [e]
        have e1 : (enc c).length = (hand c).length + 1 := rfl
        refine cut_mid ?_ ?_
        · rw [iv_length, List.length_append]
          rfl
        · rw [iv_length, iv_length, List.length_append, e1]
          show (encs pre).length + ((hand c).length + 1) = (encs pre).length + 1 + (hand c).length
          omega
      rw [hcut]
      have su : Same H2 (upd H2 u (.lst (iv (hand c)))) := Same.new nu
      have nuT : T0 ≠ u := fun z => by rw [← z, hT] at nu; cases nu
      refine ⟨x, u, dx, l, b, ts, s, c, rfl, upd_same, S.same su, g, fun H4 p l' b' ts' S4 kept hl' hb' np hp => ?_⟩
      have hT3 : (upd H2 u (.lst (iv (hand c)))) T0 = some (.lst (part.map V.int)) := su _ _ hT
      have nTx : T0 ≠ x := ne_of hT S.ins (by intro z; cases z)
      have hT4 : H4 T0 = some (.lst (part.map V.int)) := kept _ _ hT3 nTx hTl hTb
      have s3 : Same H (upd H2 u (.lst (iv (hand c)))) := L2.Same.trans s2 su
      have s4 : Same H H4 := fun z o hz => kept _ _ (s3 _ _ hz) (ne_of_none hz nx) (ne_of_none hz hl0) (ne_of_none hz hb0)
      have hTl' : T0 ≠ l' := by
        rcases hl' with e | e
        · rw [e]; exact hTl
        · exact ne_of_none hT3 e
      have hTb' : T0 ≠ b' := by
        rcases hb' with e | e
        · rw [e]; exact hTb
        · exact ne_of_none hT3 e
      have hl0' : H l' = none := by
        rcases hl' with e | e
        · rw [e]; exact hl0
        · exact L2.Same.free s3 e
      have hb0' : H b' = none := by
        rcases hb' with e | e
        · rw [e]; exact hb0
        · exact L2.Same.free s3 e
      have nTp : T0 ≠ p := ne_of_none hT3 np
      -- the lengths
      have hplay : play s (c :: rest) = ansI (Sj10.step s c).2 :: play (Sj10.step s c).1 rest := rfl
      rw [hplay, told_cons] at heq
      have hlen := congrArg List.length heq
      rw [List.length_append, List.length_append, List.length_cons] at hlen
      have hav : ansV (Sj10.step s c).2 = (ansI (Sj10.step s c).2).map V.int := rfl
      have hal : (ansV (Sj10.step s c).2).length = (ansI (Sj10.step s c).2).length := by rw [hav, List.length_map]
      have big : ∀ n, n ≤ 10000000 → n < sizeLine := fun n hn => Nat.lt_of_le_of_lt hn (by decide)
      -- told.append(len(numbers))
      refine ⟨.ref T0, rfl, .inl ⟨rfl, _, SqL.of hT4⟩, .ref p, rfl, p, _, rfl, .inl (SqL.of hp), T0, _, _, rfl, rfl, hT4, ?_, ?_⟩
      · rw [List.length_map]
        exact big _ (by omega)
      -- told.extend(numbers)
      have hp5 : (upd H4 T0 (.lst (part.map V.int ++ [V.int ((ansV (Sj10.step s c).2).length : Int)]))) p = some (.lst (ansV (Sj10.step s c).2)) := by rw [upd_ne nTp.symm]; exact hp
      refine ⟨.ref T0, rfl, .inl ⟨rfl, _, SqL.of upd_same⟩, .ref p, rfl, T0, p, _, _, rfl, rfl, upd_same, hp5, ?_, ?_⟩
      · rw [List.length_append, List.length_map, hal]
        show part.length + 1 + _ ≤ sizeLine
        exact Nat.le_of_lt (big _ (by omega))
      -- place = behind
      have S5 := S4.off (o := .lst (part.map V.int ++ [V.int ((ansV (Sj10.step s c).2).length : Int)])) hT4 hTl' hTb'
      have S6 := S5.off (o := .lst ((part.map V.int ++ [V.int ((ansV (Sj10.step s c).2).length : Int)]) ++ ansV (Sj10.step s c).2)) upd_same hTl' hTb'
      refine ⟨_, rfl, pre ++ [c], rest, part ++ (((ansI (Sj10.step s c).2).length : Int) :: ansI (Sj10.step s c).2), (Sj10.step s c).1, l', b', ts', some (.int (((encs pre).length + (enc c).length : Nat) : Int)), some (.ref p), ?_, rfl, ?_, ?_, S6, good_step g c, hl0', hb0', ?_, hTl', hTb', ?_⟩
      · rw [hcs, List.append_assoc]
        rfl
      · rw [encs_snoc]
        rfl
      · exact Same.mut (Same.mut s4 nT0) nT0
      · rw [upd_same, hav, List.length_map, List.map_append, List.map_cons, List.append_assoc]
        rfl
      · rw [List.append_assoc]
        exact heq
end
end SF
namespace SF
open PySem PySem.Spec PyProof.Rows L2
open PySem.W (Codec)
/-! ### the end: what the top has written -/
theorem all_mk {P : Program} {w : World} {K : PySem.W.Frag} {h : Heap} {mg : Str → Option Value} {fa C tp fOut fEnd fHow fFir fAll fEar fOdd fMos fLef fCou fSet fSha fSta fWay fPla fAof fAns fMIn fMBe fMWr fMBo fMCh fMCa fMOd fMNe fMTh : Addr} (X : K.In h) (G : h.Ns mainGlobals mg) (hfa : mg "answers" = some (.ref fa))
    {odOut anOut odEnd anEnd odHow anHow odFir anFir odAll anAll odEar anEar odOdd anOdd odMos anMos odLef anLef odCou anCou odSet anSet odSha anSha odSta anSta odWay anWay odPla anPla odAof anAof odAns anAns odMIn anMIn odMBe anMBe odMWr anMWr odMBo anMBo odMCh anMCh odMCa anMCa odMOd anMOd odMNe anMNe odMTh anMTh : Option Addr} {slOut slEnd slHow slFir slAll slEar slOdd slMos slLef slCou slSet slSha slSta slWay slPla slAof slAns slMIn slMBe slMWr slMBo slMCh slMCa slMOd slMNe slMTh : Array (Option Value)}
    {ocOut kVOut dcOut pmOut cdOut ctOut ocEnd kVEnd dcEnd pmEnd cdEnd ctEnd ocHow kVHow dcHow pmHow cdHow ctHow ocFir kVFir dcFir pmFir cdFir ctFir ocAll kVAll dcAll pmAll cdAll ctAll ocEar kVEar dcEar pmEar cdEar ctEar ocOdd kVOdd dcOdd pmOdd cdOdd ctOdd ocMos kVMos dcMos pmMos cdMos ctMos ocLef kVLef dcLef pmLef cdLef ctLef ocCou kVCou dcCou pmCou cdCou ctCou ocSet kVSet dcSet pmSet cdSet ctSet ocSha kVSha dcSha pmSha cdSha ctSha ocSta kVSta dcSta pmSta cdSta ctSta ocWay kVWay dcWay pmWay cdWay ctWay ocPla kVPla dcPla pmPla cdPla ctPla ocAof kVAof dcAof pmAof cdAof ctAof ocAns kVAns dcAns pmAns cdAns ctAns ocMIn kVMIn dcMIn pmMIn cdMIn ctMIn ocMBe kVMBe dcMBe pmMBe cdMBe ctMBe ocMWr kVMWr dcMWr pmMWr cdMWr ctMWr ocMBo kVMBo dcMBo pmMBo cdMBo ctMBo ocMCh kVMCh dcMCh pmMCh cdMCh ctMCh ocMCa kVMCa dcMCa pmMCa cdMCa ctMCa ocMOd kVMOd dcMOd pmMOd cdMOd ctMOd ocMNe kVMNe dcMNe pmMNe cdMNe ctMNe ocMTh kVMTh dcMTh pmMTh cdMTh ctMTh : Value}
    {t0 t1 t2 t3 t4 t5 t6 t7 t8 t9 t10 t11 t12 t13 u0 u1 u2 u3 u4 u5 u6 : Tok} {odP : Option Addr} {nP : Nat} {slP : Array (Option Value)}
    (aC : PySem.W.nsIn K mainGlobals "Standing" = some (some (.ref C)))
    (aOut : PySem.W.nsIn K mainGlobals "is_outcome" = some (some (.ref fOut)))
    (lOut : K.lookup fOut = some ⟨ocOut, odOut, .func (PySem.W.fnOf "is_outcome" "is_outcome" (defArgs sIsOutcome) (defBody sIsOutcome) (defScope sIsOutcome) .none kVOut dcOut pmOut anOut cdOut ctOut), slOut⟩)
    (cOut : PySem.W.codeIn K cdOut "is_outcome" = true)
    (kOut : PySem.W.keepIn K (.ref fOut) = true)
    (aEnd : PySem.W.nsIn K mainGlobals "wins_in_the_end" = some (some (.ref fEnd)))
    (lEnd : K.lookup fEnd = some ⟨ocEnd, odEnd, .func (PySem.W.fnOf "wins_in_the_end" "wins_in_the_end" (defArgs sEnds) (defBody sEnds) (defScope sEnds) .none kVEnd dcEnd pmEnd anEnd cdEnd ctEnd), slEnd⟩)
    (cEnd : PySem.W.codeIn K cdEnd "wins_in_the_end" = true)
    (kEnd : PySem.W.keepIn K (.ref fEnd) = true)
    (aHow : PySem.W.nsIn K mainGlobals "how_many_first" = some (some (.ref fHow)))
    (lHow : K.lookup fHow = some ⟨ocHow, odHow, .func (PySem.W.fnOf "how_many_first" "how_many_first" (defArgs sHow) (defBody sHow) (defScope sHow) .none kVHow dcHow pmHow anHow cdHow ctHow), slHow⟩)
    (cHow : PySem.W.codeIn K cdHow "how_many_first" = true)
    (kHow : PySem.W.keepIn K (.ref fHow) = true)
    (aFir : PySem.W.nsIn K mainGlobals "is_first" = some (some (.ref fFir)))
    (lFir : K.lookup fFir = some ⟨ocFir, odFir, .func (PySem.W.fnOf "is_first" "is_first" (defArgs sIsFirst) (defBody sIsFirst) (defScope sIsFirst) .none kVFir dcFir pmFir anFir cdFir ctFir), slFir⟩)
    (cFir : PySem.W.codeIn K cdFir "is_first" = true)
    (kFir : PySem.W.keepIn K (.ref fFir) = true)
    (aAll : PySem.W.nsIn K mainGlobals "all_outcomes" = some (some (.ref fAll)))
    (lAll : K.lookup fAll = some ⟨ocAll, odAll, .func (PySem.W.fnOf "all_outcomes" "all_outcomes" (defArgs sAll) (defBody sAll) (defScope sAll) .none kVAll dcAll pmAll anAll cdAll ctAll), slAll⟩)
    (cAll : PySem.W.codeIn K cdAll "all_outcomes" = true)
    (kAll : PySem.W.keepIn K (.ref fAll) = true)
    (aEar : PySem.W.nsIn K mainGlobals "earliest_outcome" = some (some (.ref fEar)))
    (lEar : K.lookup fEar = some ⟨ocEar, odEar, .func (PySem.W.fnOf "earliest_outcome" "earliest_outcome" (defArgs sEarliest) (defBody sEarliest) (defScope sEarliest) .none kVEar dcEar pmEar anEar cdEar ctEar), slEar⟩)
    (cEar : PySem.W.codeIn K cdEar "earliest_outcome" = true)
    (kEar : PySem.W.keepIn K (.ref fEar) = true)
    (aOdd : PySem.W.nsIn K mainGlobals "odds_of" = some (some (.ref fOdd)))
    (lOdd : K.lookup fOdd = some ⟨ocOdd, odOdd, .func (PySem.W.fnOf "odds_of" "odds_of" (defArgs sOdds) (defBody sOdds) (defScope sOdds) .none kVOdd dcOdd pmOdd anOdd cdOdd ctOdd), slOdd⟩)
    (cOdd : PySem.W.codeIn K cdOdd "odds_of" = true)
    (kOdd : PySem.W.keepIn K (.ref fOdd) = true)
    (aMos : PySem.W.nsIn K mainGlobals "most_won_in_vain" = some (some (.ref fMos)))
    (lMos : K.lookup fMos = some ⟨ocMos, odMos, .func (PySem.W.fnOf "most_won_in_vain" "most_won_in_vain" (defArgs sMost) (defBody sMost) (defScope sMost) .none kVMos dcMos pmMos anMos cdMos ctMos), slMos⟩)
    (cMos : PySem.W.codeIn K cdMos "most_won_in_vain" = true)
    (kMos : PySem.W.keepIn K (.ref fMos) = true)
    (aLef : PySem.W.nsIn K mainGlobals "bouts_left" = some (some (.ref fLef)))
    (lLef : K.lookup fLef = some ⟨ocLef, odLef, .func (PySem.W.fnOf "bouts_left" "bouts_left" (defArgs sLeft) (defBody sLeft) (defScope sLeft) .none kVLef dcLef pmLef anLef cdLef ctLef), slLef⟩)
    (cLef : PySem.W.codeIn K cdLef "bouts_left" = true)
    (kLef : PySem.W.keepIn K (.ref fLef) = true)
    (aCou : PySem.W.nsIn K mainGlobals "could_have" = some (some (.ref fCou)))
    (lCou : K.lookup fCou = some ⟨ocCou, odCou, .func (PySem.W.fnOf "could_have" "could_have" (defArgs sCould) (defBody sCould) (defScope sCould) .none kVCou dcCou pmCou anCou cdCou ctCou), slCou⟩)
    (cCou : PySem.W.codeIn K cdCou "could_have" = true)
    (kCou : PySem.W.keepIn K (.ref fCou) = true)
    (aSet : PySem.W.nsIn K mainGlobals "all_sets" = some (some (.ref fSet)))
    (lSet : K.lookup fSet = some ⟨ocSet, odSet, .func (PySem.W.fnOf "all_sets" "all_sets" (defArgs sSets) (defBody sSets) (defScope sSets) .none kVSet dcSet pmSet anSet cdSet ctSet), slSet⟩)
    (cSet : PySem.W.codeIn K cdSet "all_sets" = true)
    (kSet : PySem.W.keepIn K (.ref fSet) = true)
    (aSha : PySem.W.nsIn K mainGlobals "shares_out" = some (some (.ref fSha)))
    (lSha : K.lookup fSha = some ⟨ocSha, odSha, .func (PySem.W.fnOf "shares_out" "shares_out" (defArgs sShares) (defBody sShares) (defScope sShares) .none kVSha dcSha pmSha anSha cdSha ctSha), slSha⟩)
    (cSha : PySem.W.codeIn K cdSha "shares_out" = true)
    (kSha : PySem.W.keepIn K (.ref fSha) = true)
    (aSta : PySem.W.nsIn K mainGlobals "stands_in_the_way" = some (some (.ref fSta)))
    (lSta : K.lookup fSta = some ⟨ocSta, odSta, .func (PySem.W.fnOf "stands_in_the_way" "stands_in_the_way" (defArgs sStands) (defBody sStands) (defScope sStands) .none kVSta dcSta pmSta anSta cdSta ctSta), slSta⟩)
    (cSta : PySem.W.codeIn K cdSta "stands_in_the_way" = true)
    (kSta : PySem.W.keepIn K (.ref fSta) = true)
    (aWay : PySem.W.nsIn K mainGlobals "set_in_the_way" = some (some (.ref fWay)))
    (lWay : K.lookup fWay = some ⟨ocWay, odWay, .func (PySem.W.fnOf "set_in_the_way" "set_in_the_way" (defArgs sSet) (defBody sSet) (defScope sSet) .none kVWay dcWay pmWay anWay cdWay ctWay), slWay⟩)
    (cWay : PySem.W.codeIn K cdWay "set_in_the_way" = true)
    (kWay : PySem.W.keepIn K (.ref fWay) = true)
    (aPla : PySem.W.nsIn K mainGlobals "place_behind" = some (some (.ref fPla)))
    (lPla : K.lookup fPla = some ⟨ocPla, odPla, .func (PySem.W.fnOf "place_behind" "place_behind" (defArgs sPlace) (defBody sPlace) (defScope sPlace) .none kVPla dcPla pmPla anPla cdPla ctPla), slPla⟩)
    (cPla : PySem.W.codeIn K cdPla "place_behind" = true)
    (kPla : PySem.W.keepIn K (.ref fPla) = true)
    (aAof : PySem.W.nsIn K mainGlobals "answer_of_call" = some (some (.ref fAof)))
    (lAof : K.lookup fAof = some ⟨ocAof, odAof, .func (PySem.W.fnOf "answer_of_call" "answer_of_call" (defArgs sAnsOf) (defBody sAnsOf) (defScope sAnsOf) .none kVAof dcAof pmAof anAof cdAof ctAof), slAof⟩)
    (cAof : PySem.W.codeIn K cdAof "answer_of_call" = true)
    (kAof : PySem.W.keepIn K (.ref fAof) = true)
    (aAns : PySem.W.nsIn K mainGlobals "answers" = some (some (.ref fAns)))
    (lAns : K.lookup fAns = some ⟨ocAns, odAns, .func (PySem.W.fnOf "answers" "answers" (defArgs sAns) (defBody sAns) (defScope sAns) .none kVAns dcAns pmAns anAns cdAns ctAns), slAns⟩)
    (cAns : PySem.W.codeIn K cdAns "answers" = true)
    (kAns : PySem.W.keepIn K (.ref fAns) = true)
    (aMIn : PySem.W.findIn K (.ref C) "__init__" = some (some (.ref fMIn)))
    (iMIn : PySem.W.isFn K (.ref fMIn) = true)
    (lMIn : K.lookup fMIn = some ⟨ocMIn, odMIn, .func (PySem.W.fnOf "__init__" "Standing.__init__" (defArgs sInit) (defBody sInit) (defScope sInit) .none kVMIn dcMIn pmMIn anMIn cdMIn ctMIn), slMIn⟩)
    (cMIn : PySem.W.codeIn K cdMIn "Standing.__init__" = true)
    (kMIn : PySem.W.keepIn K (.ref fMIn) = true)
    (aMBe : PySem.W.findIn K (.ref C) "begins" = some (some (.ref fMBe)))
    (iMBe : PySem.W.isFn K (.ref fMBe) = true)
    (lMBe : K.lookup fMBe = some ⟨ocMBe, odMBe, .func (PySem.W.fnOf "begins" "Standing.begins" (defArgs sBegins) (defBody sBegins) (defScope sBegins) .none kVMBe dcMBe pmMBe anMBe cdMBe ctMBe), slMBe⟩)
    (cMBe : PySem.W.codeIn K cdMBe "Standing.begins" = true)
    (kMBe : PySem.W.keepIn K (.ref fMBe) = true)
    (aMWr : PySem.W.findIn K (.ref C) "wrestler" = some (some (.ref fMWr)))
    (iMWr : PySem.W.isFn K (.ref fMWr) = true)
    (lMWr : K.lookup fMWr = some ⟨ocMWr, odMWr, .func (PySem.W.fnOf "wrestler" "Standing.wrestler" (defArgs sWrestler) (defBody sWrestler) (defScope sWrestler) .none kVMWr dcMWr pmMWr anMWr cdMWr ctMWr), slMWr⟩)
    (cMWr : PySem.W.codeIn K cdMWr "Standing.wrestler" = true)
    (kMWr : PySem.W.keepIn K (.ref fMWr) = true)
    (aMBo : PySem.W.findIn K (.ref C) "bout" = some (some (.ref fMBo)))
    (iMBo : PySem.W.isFn K (.ref fMBo) = true)
    (lMBo : K.lookup fMBo = some ⟨ocMBo, odMBo, .func (PySem.W.fnOf "bout" "Standing.bout" (defArgs sBout) (defBody sBout) (defScope sBout) .none kVMBo dcMBo pmMBo anMBo cdMBo ctMBo), slMBo⟩)
    (cMBo : PySem.W.codeIn K cdMBo "Standing.bout" = true)
    (kMBo : PySem.W.keepIn K (.ref fMBo) = true)
    (aMCh : PySem.W.findIn K (.ref C) "check" = some (some (.ref fMCh)))
    (iMCh : PySem.W.isFn K (.ref fMCh) = true)
    (lMCh : K.lookup fMCh = some ⟨ocMCh, odMCh, .func (PySem.W.fnOf "check" "Standing.check" (defArgs sCheck) (defBody sCheck) (defScope sCheck) .none kVMCh dcMCh pmMCh anMCh cdMCh ctMCh), slMCh⟩)
    (cMCh : PySem.W.codeIn K cdMCh "Standing.check" = true)
    (kMCh : PySem.W.keepIn K (.ref fMCh) = true)
    (aMCa : PySem.W.findIn K (.ref C) "can" = some (some (.ref fMCa)))
    (iMCa : PySem.W.isFn K (.ref fMCa) = true)
    (lMCa : K.lookup fMCa = some ⟨ocMCa, odMCa, .func (PySem.W.fnOf "can" "Standing.can" (defArgs sCan) (defBody sCan) (defScope sCan) .none kVMCa dcMCa pmMCa anMCa cdMCa ctMCa), slMCa⟩)
    (cMCa : PySem.W.codeIn K cdMCa "Standing.can" = true)
    (kMCa : PySem.W.keepIn K (.ref fMCa) = true)
    (aMOd : PySem.W.findIn K (.ref C) "odds" = some (some (.ref fMOd)))
    (iMOd : PySem.W.isFn K (.ref fMOd) = true)
    (lMOd : K.lookup fMOd = some ⟨ocMOd, odMOd, .func (PySem.W.fnOf "odds" "Standing.odds" (defArgs sOddsM) (defBody sOddsM) (defScope sOddsM) .none kVMOd dcMOd pmMOd anMOd cdMOd ctMOd), slMOd⟩)
    (cMOd : PySem.W.codeIn K cdMOd "Standing.odds" = true)
    (kMOd : PySem.W.keepIn K (.ref fMOd) = true)
    (aMNe : PySem.W.findIn K (.ref C) "needs" = some (some (.ref fMNe)))
    (iMNe : PySem.W.isFn K (.ref fMNe) = true)
    (lMNe : K.lookup fMNe = some ⟨ocMNe, odMNe, .func (PySem.W.fnOf "needs" "Standing.needs" (defArgs sNeeds) (defBody sNeeds) (defScope sNeeds) .none kVMNe dcMNe pmMNe anMNe cdMNe ctMNe), slMNe⟩)
    (cMNe : PySem.W.codeIn K cdMNe "Standing.needs" = true)
    (kMNe : PySem.W.keepIn K (.ref fMNe) = true)
    (aMTh : PySem.W.findIn K (.ref C) "is_there" = some (some (.ref fMTh)))
    (iMTh : PySem.W.isFn K (.ref fMTh) = true)
    (lMTh : K.lookup fMTh = some ⟨ocMTh, odMTh, .func (PySem.W.fnOf "is_there" "Standing.is_there" (defArgs sThere) (defBody sThere) (defScope sThere) .none kVMTh dcMTh pmMTh anMTh cdMTh ctMTh), slMTh⟩)
    (cMTh : PySem.W.codeIn K cdMTh "Standing.is_there" = true)
    (kMTh : PySem.W.keepIn K (.ref fMTh) = true)
    (z0 : PySem.W.nsIn K mainGlobals "MOST_WRESTLERS" = some (some (.int (6) t0)))
    (z1 : PySem.W.nsIn K mainGlobals "MOST_WINS" = some (some (.int (15) t1)))
    (z2 : PySem.W.nsIn K mainGlobals "MOST_BOUTS" = some (some (.int (9) t2)))
    (z3 : PySem.W.nsIn K mainGlobals "WRONG_NUMBER" = some (some (.int (-1) t3)))
    (z4 : PySem.W.nsIn K mainGlobals "NOT_THERE" = some (some (.int (-2) t4)))
    (z5 : PySem.W.nsIn K mainGlobals "BOTH_THE_SAME" = some (some (.int (-4) t5)))
    (z6 : PySem.W.nsIn K mainGlobals "NO_ROOM" = some (some (.int (-5) t6)))
    (z7 : PySem.W.nsIn K mainGlobals "NOT_SURE" = some (some (.int (-6) t7)))
    (z8 : PySem.W.nsIn K mainGlobals "BEGINS" = some (some (.int (0) t8)))
    (z9 : PySem.W.nsIn K mainGlobals "WRESTLER" = some (some (.int (1) t9)))
    (z10 : PySem.W.nsIn K mainGlobals "BOUT" = some (some (.int (2) t10)))
    (z11 : PySem.W.nsIn K mainGlobals "CHECK" = some (some (.int (3) t11)))
    (z12 : PySem.W.nsIn K mainGlobals "CAN" = some (some (.int (4) t12)))
    (z13 : PySem.W.nsIn K mainGlobals "ODDS" = some (some (.int (5) t13)))
    (blen : PySem.W.nsIn K mainGlobals "len" = some none)
    (blist : PySem.W.nsIn K mainGlobals "list" = some none)
    (bzip : PySem.W.nsIn K mainGlobals "zip" = some none)
    (bmax : PySem.W.nsIn K mainGlobals "max" = some none)
    (bmin : PySem.W.nsIn K mainGlobals "min" = some none)
    (bsum : PySem.W.nsIn K mainGlobals "sum" = some none)
    (brange : PySem.W.nsIn K mainGlobals "range" = some none)
    (benumerate : PySem.W.nsIn K mainGlobals "enumerate" = some none)
    (aP : PySem.W.nsIn K mainGlobals "PLAIN_NUMBERS" = some (some (.ref tp)))
    (lP : K.lookup tp = some ⟨.type "tuple", odP, .seq #[.int 0 u0, .int 1 u1, .int 2 u2, .int 1 u3, .int 1 u4, .int 1 u5, .int 1 u6] nP, slP⟩)
    (pg : PySem.W.plainGet K C Str.empty = true)
    (hd : PySem.W.hasDictIn K C = true)
    (po : PySem.W.plainOver K C = true)
    (sa : PySem.W.findIn K (.ref C) "__setattr__" = some (some (.builtin "object.__setattr__")))
    (mk : PySem.W.makesIn K C = true)
    (kc : PySem.W.keepIn K (.ref C) = true)
    (nW : PySem.W.findIn K (.ref C) "wins" = some none)
    (nB : PySem.W.findIn K (.ref C) "bouts" = some none)
    : ∃ fd : FuncData, (∀ (s : Shared) (us : List Value), us.length = (["calls"] : List Str).length → BindsTo s fd ⟨us, []⟩ ((["calls"] : List Str).zip us)) ∧ ∀ base : Heap, K.In base → base.Ns mainGlobals mg → FnOk P w K mg base CX0 7 fa fd ["calls"] (spAns K) := by
  have e := hfa.symm.trans (PySem.W.mg_of X G aAns)
  cases e
  have T : Txt K mg C := ⟨⟨pg, hd, po, sa⟩, nW, nB, PySem.W.mg_of X G aC, PySem.W.mg_none_of X G blen, ⟨_, PySem.W.mg_of X G z0⟩, ⟨_, PySem.W.mg_of X G z1⟩, ⟨_, PySem.W.mg_of X G z2⟩, ⟨_, PySem.W.mg_of X G z3⟩, ⟨_, PySem.W.mg_of X G z4⟩, ⟨_, PySem.W.mg_of X G z5⟩, ⟨_, PySem.W.mg_of X G z6⟩, ⟨_, PySem.W.mg_of X G z7⟩⟩
  have N : Consts mg := ⟨⟨_, PySem.W.mg_of X G z8⟩, ⟨_, PySem.W.mg_of X G z9⟩, ⟨_, PySem.W.mg_of X G z10⟩, ⟨_, PySem.W.mg_of X G z11⟩, ⟨_, PySem.W.mg_of X G z12⟩, ⟨_, PySem.W.mg_of X G z13⟩⟩
  have PA : PlainAt K mg := ⟨tp, PySem.W.mg_of X G aP, fun H => .inr ⟨_, _, _, lP, rfl, rfl, (by show 7 ≤ sizeLine; decide), .cons ⟨u0, rfl⟩ (.cons ⟨u1, rfl⟩ (.cons ⟨u2, rfl⟩ (.cons ⟨u3, rfl⟩ (.cons ⟨u4, rfl⟩ (.cons ⟨u5, rfl⟩ (.cons ⟨u6, rfl⟩ .nil))))))⟩⟩
  have mlen := PySem.W.mg_none_of X G blen
  have mlist := PySem.W.mg_none_of X G blist
  have mzip := PySem.W.mg_none_of X G bzip
  have mmax := PySem.W.mg_none_of X G bmax
  have mmin := PySem.W.mg_none_of X G bmin
  have msum := PySem.W.mg_none_of X G bsum
  have mrange := PySem.W.mg_none_of X G brange
  have menumerate := PySem.W.mg_none_of X G benumerate
  have FOut := fun_mk (st := sIsOutcome) lOut cOut kOut
  have BOut := FOut.binds (ps := ["numbers", "bouts"]) fun _ _ _ _ _ _ us hl => match us, hl with | [_, _], _ => rfl
  have FEnd := fun_mk (st := sEnds) lEnd cEnd kEnd
  have BEnd := FEnd.binds (ps := ["wins", "bouts", "outcome"]) fun _ _ _ _ _ _ us hl => match us, hl with | [_, _, _], _ => rfl
  have FHow := fun_mk (st := sHow) lHow cHow kHow
  have BHow := FHow.binds (ps := ["ends"]) fun _ _ _ _ _ _ us hl => match us, hl with | [_], _ => rfl
  have FFir := fun_mk (st := sIsFirst) lFir cFir kFir
  have BFir := FFir.binds (ps := ["ends", "who"]) fun _ _ _ _ _ _ us hl => match us, hl with | [_, _], _ => rfl
  have FAll := fun_mk (st := sAll) lAll cAll kAll
  have BAll := FAll.binds (ps := ["bouts"]) fun _ _ _ _ _ _ us hl => match us, hl with | [_], _ => rfl
  have FEar := fun_mk (st := sEarliest) lEar cEar kEar
  have BEar := FEar.binds (ps := ["wins", "bouts", "who"]) fun _ _ _ _ _ _ us hl => match us, hl with | [_, _, _], _ => rfl
  have FOdd := fun_mk (st := sOdds) lOdd cOdd kOdd
  have BOdd := FOdd.binds (ps := ["wins", "bouts", "who"]) fun _ _ _ _ _ _ us hl => match us, hl with | [_, _, _], _ => rfl
  have FMos := fun_mk (st := sMost) lMos cMos kMos
  have BMos := FMos.binds (ps := ["wins", "bouts", "who"]) fun _ _ _ _ _ _ us hl => match us, hl with | [_, _, _], _ => rfl
  have FLef := fun_mk (st := sLeft) lLef cLef kLef
  have BLef := FLef.binds (ps := ["bouts", "who"]) fun _ _ _ _ _ _ us hl => match us, hl with | [_, _], _ => rfl
  have FCou := fun_mk (st := sCould) lCou cCou kCou
  have BCou := FCou.binds (ps := ["wins", "bouts", "who"]) fun _ _ _ _ _ _ us hl => match us, hl with | [_, _, _], _ => rfl
  have FSet := fun_mk (st := sSets) lSet cSet kSet
  have BSet := FSet.binds (ps := ["many"]) fun _ _ _ _ _ _ us hl => match us, hl with | [_], _ => rfl
  have FSha := fun_mk (st := sShares) lSha cSha kSha
  have BSha := FSha.binds (ps := ["wins", "bouts", "members"]) fun _ _ _ _ _ _ us hl => match us, hl with | [_, _, _], _ => rfl
  have FSta := fun_mk (st := sStands) lSta cSta kSta
  have BSta := FSta.binds (ps := ["wins", "bouts", "members", "who"]) fun _ _ _ _ _ _ us hl => match us, hl with | [_, _, _, _], _ => rfl
  have FWay := fun_mk (st := sSet) lWay cWay kWay
  have BWay := FWay.binds (ps := ["wins", "bouts", "who"]) fun _ _ _ _ _ _ us hl => match us, hl with | [_, _, _], _ => rfl
  have FPla := fun_mk (st := sPlace) lPla cPla kPla
  have BPla := FPla.binds (ps := ["calls", "place"]) fun _ _ _ _ _ _ us hl => match us, hl with | [_, _], _ => rfl
  have FAof := fun_mk (st := sAnsOf) lAof cAof kAof
  have BAof := FAof.binds (ps := ["standing", "call", "handed"]) fun _ _ _ _ _ _ us hl => match us, hl with | [_, _, _], _ => rfl
  have FAns := fun_mk (st := sAns) lAns cAns kAns
  have BAns := FAns.binds (ps := ["calls"]) fun _ _ _ _ _ _ us hl => match us, hl with | [_], _ => rfl
  have FMIn := fun_mk (st := sInit) lMIn cMIn kMIn
  have BMIn := FMIn.binds (ps := ["self"]) fun _ _ _ _ _ _ us hl => match us, hl with | [_], _ => rfl
  have FMBe := fun_mk (st := sBegins) lMBe cMBe kMBe
  have BMBe := FMBe.binds (ps := ["self"]) fun _ _ _ _ _ _ us hl => match us, hl with | [_], _ => rfl
  have FMWr := fun_mk (st := sWrestler) lMWr cMWr kMWr
  have BMWr := FMWr.binds (ps := ["self", "wins"]) fun _ _ _ _ _ _ us hl => match us, hl with | [_, _], _ => rfl
  have FMBo := fun_mk (st := sBout) lMBo cMBo kMBo
  have BMBo := FMBo.binds (ps := ["self", "one", "other"]) fun _ _ _ _ _ _ us hl => match us, hl with | [_, _, _], _ => rfl
  have FMCh := fun_mk (st := sCheck) lMCh cMCh kMCh
  have BMCh := FMCh.binds (ps := ["self", "outcome"]) fun _ _ _ _ _ _ us hl => match us, hl with | [_, _], _ => rfl
  have FMCa := fun_mk (st := sCan) lMCa cMCa kMCa
  have BMCa := FMCa.binds (ps := ["self", "who"]) fun _ _ _ _ _ _ us hl => match us, hl with | [_, _], _ => rfl
  have FMOd := fun_mk (st := sOddsM) lMOd cMOd kMOd
  have BMOd := FMOd.binds (ps := ["self", "who"]) fun _ _ _ _ _ _ us hl => match us, hl with | [_, _], _ => rfl
  have FMNe := fun_mk (st := sNeeds) lMNe cMNe kMNe
  have BMNe := FMNe.binds (ps := ["self", "who"]) fun _ _ _ _ _ _ us hl => match us, hl with | [_, _], _ => rfl
  have FMTh := fun_mk (st := sThere) lMTh cMTh kMTh
  have BMTh := FMTh.binds (ps := ["self", "who"]) fun _ _ _ _ _ _ us hl => match us, hl with | [_, _], _ => rfl
  refine ⟨PySem.W.fnOf "answers" "answers" (defArgs sAns) (defBody sAns) (defScope sAns) .none kVAns dcAns pmAns anAns cdAns ctAns, fun s us hu => match us, hu with | [_], _ => .of_eq rfl, fun base _ _ => ?_⟩
  have DOut : Def P w K mg base 1 "is_outcome" ["numbers", "bouts"] (spIsOutcome K) := ⟨fOut, _, ok_isOutcome (k := 0) FOut mlen, PySem.W.mg_of X G aOut, FOut.kp, BOut⟩
  have DEnd : Def P w K mg base 1 "wins_in_the_end" ["wins", "bouts", "outcome"] spEnds := ⟨fEnd, _, ok_ends (k := 0) FEnd mlist mzip, PySem.W.mg_of X G aEnd, FEnd.kp, BEnd⟩
  have DHow : Def P w K mg base 1 "how_many_first" ["ends"] spHow := ⟨fHow, _, ok_how (k := 0) FHow mmax, PySem.W.mg_of X G aHow, FHow.kp, BHow⟩
  have DFir : Def P w K mg base 1 "is_first" ["ends", "who"] spIsFirst := ⟨fFir, _, ok_isFirst (k := 0) FFir mmax, PySem.W.mg_of X G aFir, FFir.kp, BFir⟩
  have DAll : Def P w K mg base 1 "all_outcomes" ["bouts"] spAll := ⟨fAll, _, ok_all (k := 0) FAll mlen mrange, PySem.W.mg_of X G aAll, FAll.kp, BAll⟩
  have DEar : Def P w K mg base 2 "earliest_outcome" ["wins", "bouts", "who"] spEarliest := ⟨fEar, _, ok_earliest (k := 1) FEar DAll DEnd DFir, PySem.W.mg_of X G aEar, FEar.kp, BEar⟩
  have DOdd : Def P w K mg base 2 "odds_of" ["wins", "bouts", "who"] spOdds := ⟨fOdd, _, ok_odds (k := 1) FOdd DAll DEnd DFir DHow mlen, PySem.W.mg_of X G aOdd, FOdd.kp, BOdd⟩
  have DMos : Def P w K mg base 2 "most_won_in_vain" ["wins", "bouts", "who"] spMost := ⟨fMos, _, ok_most (k := 1) FMos DAll DEnd DFir, PySem.W.mg_of X G aMos, FMos.kp, BMos⟩
  have DLef : Def P w K mg base 1 "bouts_left" ["bouts", "who"] spLeft := ⟨fLef, _, ok_left (k := 0) FLef mlen, PySem.W.mg_of X G aLef, FLef.kp, BLef⟩
  have DCou : Def P w K mg base 2 "could_have" ["wins", "bouts", "who"] spCould := ⟨fCou, _, ok_could (k := 1) FCou DLef, PySem.W.mg_of X G aCou, FCou.kp, BCou⟩
  have DSet : Def P w K mg base 1 "all_sets" ["many"] spSets := ⟨fSet, _, ok_sets (k := 0) FSet mrange, PySem.W.mg_of X G aSet, FSet.kp, BSet⟩
  have DSha : Def P w K mg base 1 "shares_out" ["wins", "bouts", "members"] spShares := ⟨fSha, _, ok_shares (k := 0) FSha mlen msum, PySem.W.mg_of X G aSha, FSha.kp, BSha⟩
  have DSta : Def P w K mg base 3 "stands_in_the_way" ["wins", "bouts", "members", "who"] spStands := ⟨fSta, _, ok_stands (k := 2) FSta (DSha.mono (by decide)) DCou mlen, PySem.W.mg_of X G aSta, FSta.kp, BSta⟩
  have DWay : Def P w K mg base 4 "set_in_the_way" ["wins", "bouts", "who"] spSet := ⟨fWay, _, ok_set (k := 3) FWay (DSet.mono (by decide)) DSta mlen mmin menumerate, PySem.W.mg_of X G aWay, FWay.kp, BWay⟩
  have DMTh : MDef P w K mg base C 1 "is_there" ["self", "who"] (spThere C) := ⟨fMTh, _, ok_there (k := 0) FMTh T, ⟨aMTh, iMTh, kMTh⟩, BMTh⟩
  have DMBe : MDef P w K mg base C 1 "begins" ["self"] (spM C rBegins) := ⟨fMBe, _, ok_begins (k := 0) FMBe T, ⟨aMBe, iMBe, kMBe⟩, BMBe⟩
  have DMWr : MDef P w K mg base C 1 "wrestler" ["self", "wins"] (spM C rWrestler) := ⟨fMWr, _, ok_wrestler (k := 0) FMWr T, ⟨aMWr, iMWr, kMWr⟩, BMWr⟩
  have DMBo : MDef P w K mg base C 2 "bout" ["self", "one", "other"] (spM C rBout) := ⟨fMBo, _, ok_bout (k := 1) FMBo T DMTh, ⟨aMBo, iMBo, kMBo⟩, BMBo⟩
  have DMCh : MDef P w K mg base C 2 "check" ["self", "outcome"] (spM C rCheck) := ⟨fMCh, _, ok_check (k := 1) FMCh T DOut DEnd DHow, ⟨aMCh, iMCh, kMCh⟩, BMCh⟩
  have DMCa : MDef P w K mg base C 5 "can" ["self", "who"] (spM C rCan) := ⟨fMCa, _, ok_can (k := 4) FMCa T (DMTh.mono (by decide)) (DEar.mono (by decide)) DWay, ⟨aMCa, iMCa, kMCa⟩, BMCa⟩
  have DMOd : MDef P w K mg base C 3 "odds" ["self", "who"] (spM C rOdds) := ⟨fMOd, _, ok_oddsM (k := 2) FMOd T (DMTh.mono (by decide)) DOdd, ⟨aMOd, iMOd, kMOd⟩, BMOd⟩
  have DMNe : MDef P w K mg base C 3 "needs" ["self", "who"] (spM C rNeeds) := ⟨fMNe, _, ok_needs (k := 2) FMNe T (DMTh.mono (by decide)) DMos (DLef.mono (by decide)), ⟨aMNe, iMNe, kMNe⟩, BMNe⟩
  have DAof : Def P w K mg base 6 "answer_of_call" ["standing", "call", "handed"] (spAnsOf C) := ⟨fAof, _, ok_ansOf (k := 5) FAof T N (DMBe.mono (by decide)) (DMWr.mono (by decide)) (DMBo.mono (by decide)) (DMCh.mono (by decide)) DMCa (DMOd.mono (by decide)) (DMNe.mono (by decide)), PySem.W.mg_of X G aAof, FAof.kp, BAof⟩
  have DPla : Def P w K mg base 1 "place_behind" ["calls", "place"] (spPlace K) := ⟨fPla, _, ok_place (k := 0) FPla PA ⟨_, PySem.W.mg_of X G z11⟩, PySem.W.mg_of X G aPla, FPla.kp, BPla⟩
  exact ok_ans (k := 6) (by decide) FAns T ⟨mk, aMIn, iMIn, kc⟩ (ok_init (k := 0) FMIn T) BMIn (DPla.mono (by decide)) DAof
end SF
open PySem PySem.W PyProof.Rows
set_option maxRecDepth 100000 in
set_option maxHeartbeats 8000000 in
theorem PySem.Challenge.cw_stillfirst_s01_answers_holds : PySem.Challenge.rw_stillfirst_s01_answers.Holds := by
  w_on; k_headS; (case hw => exact ⟨[.list [.int 0]], by decide +kernel, by decide +kernel⟩)
  k_fillS
  refine L2.walk_specK (r := PySem.Challenge.rw_stillfirst_s01_answers) (k := 7) (CX := L2.CX0) (ps := ["calls"]) (sp := SF.spAns) (by decide +kernel) rfl rfl ⟨rfl, by decide, by decide⟩ (fun w h Y => PySem.W.kIn_of Y) ?F ?S (fun _ _ _ _ z => z)
  case F =>
    intro w mg fa h Y KX G hmg
    refine' SF.all_mk KX G hmg ?aC ?aOut ?lOut ?cOut ?kOut ?aEnd ?lEnd ?cEnd ?kEnd ?aHow ?lHow ?cHow ?kHow ?aFir ?lFir ?cFir ?kFir ?aAll ?lAll ?cAll ?kAll ?aEar ?lEar ?cEar ?kEar ?aOdd ?lOdd ?cOdd ?kOdd ?aMos ?lMos ?cMos ?kMos ?aLef ?lLef ?cLef ?kLef ?aCou ?lCou ?cCou ?kCou ?aSet ?lSet ?cSet ?kSet ?aSha ?lSha ?cSha ?kSha ?aSta ?lSta ?cSta ?kSta ?aWay ?lWay ?cWay ?kWay ?aPla ?lPla ?cPla ?kPla ?aAof ?lAof ?cAof ?kAof ?aAns ?lAns ?cAns ?kAns ?aMIn ?iMIn ?lMIn ?cMIn ?kMIn ?aMBe ?iMBe ?lMBe ?cMBe ?kMBe ?aMWr ?iMWr ?lMWr ?cMWr ?kMWr ?aMBo ?iMBo ?lMBo ?cMBo ?kMBo ?aMCh ?iMCh ?lMCh ?cMCh ?kMCh ?aMCa ?iMCa ?lMCa ?cMCa ?kMCa ?aMOd ?iMOd ?lMOd ?cMOd ?kMOd ?aMNe ?iMNe ?lMNe ?cMNe ?kMNe ?aMTh ?iMTh ?lMTh ?cMTh ?kMTh ?z0 ?z1 ?z2 ?z3 ?z4 ?z5 ?z6 ?z7 ?z8 ?z9 ?z10 ?z11 ?z12 ?z13 ?blen ?blist ?bzip ?bmax ?bmin ?bsum ?brange ?benumerate ?aP ?lP ?pg ?hd ?po ?sa ?mk ?kc ?nW ?nB
    (case aC => k_is)
    (case aOut => k_is)
    (case lOut => k_is)
    (case cOut => k_is)
    (case kOut => k_is)
    (case aEnd => k_is)
    (case lEnd => k_is)
    (case cEnd => k_is)
    (case kEnd => k_is)
    (case aHow => k_is)
    (case lHow => k_is)
    (case cHow => k_is)
    (case kHow => k_is)
    (case aFir => k_is)
    (case lFir => k_is)
    (case cFir => k_is)
    (case kFir => k_is)
    (case aAll => k_is)
    (case lAll => k_is)
    (case cAll => k_is)
    (case kAll => k_is)
    (case aEar => k_is)
    (case lEar => k_is)
    (case cEar => k_is)
    (case kEar => k_is)
    (case aOdd => k_is)
    (case lOdd => k_is)
    (case cOdd => k_is)
    (case kOdd => k_is)
    (case aMos => k_is)
    (case lMos => k_is)
    (case cMos => k_is)
    (case kMos => k_is)
    (case aLef => k_is)
    (case lLef => k_is)
    (case cLef => k_is)
    (case kLef => k_is)
    (case aCou => k_is)
    (case lCou => k_is)
    (case cCou => k_is)
    (case kCou => k_is)
    (case aSet => k_is)
    (case lSet => k_is)
    (case cSet => k_is)
    (case kSet => k_is)
    (case aSha => k_is)
    (case lSha => k_is)
    (case cSha => k_is)
    (case kSha => k_is)
    (case aSta => k_is)
    (case lSta => k_is)
    (case cSta => k_is)
    (case kSta => k_is)
    (case aWay => k_is)
    (case lWay => k_is)
    (case cWay => k_is)
    (case kWay => k_is)
    (case aPla => k_is)
    (case lPla => k_is)
    (case cPla => k_is)
    (case kPla => k_is)
    (case aAof => k_is)
    (case lAof => k_is)
    (case cAof => k_is)
    (case kAof => k_is)
    (case aAns => k_is)
    (case lAns => k_is)
    (case cAns => k_is)
    (case kAns => k_is)
    (case aMIn => k_is)
    (case iMIn => k_is)
    (case lMIn => k_is)
    (case cMIn => k_is)
    (case kMIn => k_is)
    (case aMBe => k_is)
    (case iMBe => k_is)
    (case lMBe => k_is)
    (case cMBe => k_is)
    (case kMBe => k_is)
    (case aMWr => k_is)
    (case iMWr => k_is)
    (case lMWr => k_is)
    (case cMWr => k_is)
    (case kMWr => k_is)
    (case aMBo => k_is)
    (case iMBo => k_is)
    (case lMBo => k_is)
    (case cMBo => k_is)
    (case kMBo => k_is)
    (case aMCh => k_is)
    (case iMCh => k_is)
    (case lMCh => k_is)
    (case cMCh => k_is)
    (case kMCh => k_is)
    (case aMCa => k_is)
    (case iMCa => k_is)
    (case lMCa => k_is)
    (case cMCa => k_is)
    (case kMCa => k_is)
    (case aMOd => k_is)
    (case iMOd => k_is)
    (case lMOd => k_is)
    (case cMOd => k_is)
    (case kMOd => k_is)
    (case aMNe => k_is)
    (case iMNe => k_is)
    (case lMNe => k_is)
    (case cMNe => k_is)
    (case kMNe => k_is)
    (case aMTh => k_is)
    (case iMTh => k_is)
    (case lMTh => k_is)
    (case cMTh => k_is)
    (case kMTh => k_is)
    (case z0 => k_is)
    (case z1 => k_is)
    (case z2 => k_is)
    (case z3 => k_is)
    (case z4 => k_is)
    (case z5 => k_is)
    (case z6 => k_is)
    (case z7 => k_is)
    (case z8 => k_is)
    (case z9 => k_is)
    (case z10 => k_is)
    (case z11 => k_is)
    (case z12 => k_is)
    (case z13 => k_is)
    (case blen => k_is)
    (case blist => k_is)
    (case bzip => k_is)
    (case bmax => k_is)
    (case bmin => k_is)
    (case bsum => k_is)
    (case brange => k_is)
    (case benumerate => k_is)
    (case aP => k_is)
    (case lP => k_is)
    (case pg => k_is)
    (case hd => k_is)
    (case po => k_is)
    (case sa => k_is)
    (case mk => k_is)
    (case kc => k_is)
    (case nW => k_is)
    (case nB => k_is)
  case S =>
    intro K H xs a hO hwi hask hx
    cases hx with
    | cons h1 h2 =>
      cases h2
      cases h1 with
      | lst hs ha =>
        have e := L2.ints_dw a.1 _ ha
        subst e
        have hask : PySj10.answers_asked a.1 = true := hask
        obtain ⟨cs, e1, e2, _, _, hlen⟩ := SF.decode hask
        rw [e2] at hlen
        have e3 : SF.iv (SF.encs cs) = a.1.map L2.V.int := by
          rw [e1]
          rfl
        rw [← e3] at hs
        refine ⟨_, cs, rfl, hs, hlen, fun H' p hp => ?_⟩
        rw [← e2] at hp
        exact .lst (L2.SqL.of hp) (L2.dw_ints _)
#print axioms PySem.Challenge.cw_stillfirst_s01_answers_holds
