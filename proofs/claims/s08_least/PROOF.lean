import PyProof.Rows.All
import Wide.All
import OpenK.AllK
import Wide.FinOn
import Open.SpecLaws
import KE.OsHead
import KE.OsGo
import HandS.Base
import HandS.Call
import HandS.List
import HandS.Comp
import HandS.Ends
import HandS.Dict
import HandS.Iter
import HandS.Spec
import HandS.Words
import HandS.WordsList
import HandS.WordsDict
import HandS.Deep
import HandS.Walk
import PySem.Challenge.RW_seenonway_s08_least
set_option Elab.async false
set_option linter.all false
set_option maxRecDepth 100000
set_option maxHeartbeats 2000000
/-! The mathematics: the links of a net, its table of exits, what hangs together. -/
namespace Sw
open Ks536 (Net exits degree end_ out go)

/-- the links of a list of even length -/
def pairs : List Nat → List (Nat × Nat)
  | u :: v :: l => (u, v) :: pairs l
  | _ => []
theorem pairs_len : ∀ (l : List Nat), (pairs l).length = l.length / 2
  | [] => rfl
  | [_] => by simp [pairs]
  | u :: v :: l => by
    show (pairs l).length + 1 = (l.length + 2) / 2
    rw [pairs_len l]; omega
theorem linksOf_even : ∀ (l : List Nat), l.length % 2 = 0 → Ks536.linksOf l = some (pairs l)
  | [], _ => rfl
  | [_], h => by simp at h
  | u :: v :: l, h => by
    show (Ks536.linksOf l).map _ = _
    rw [linksOf_even l (by simp only [List.length_cons] at h; omega)]; rfl
theorem linksOf_odd : ∀ (l : List Nat), ¬ l.length % 2 = 0 → Ks536.linksOf l = none
  | [], h => absurd rfl h
  | [_], _ => rfl
  | u :: v :: l, h => by
    show (Ks536.linksOf l).map _ = _
    rw [linksOf_odd l (by simp only [List.length_cons] at h; omega)]; rfl
theorem pairs_get : ∀ (l : List Nat) (k : Nat) (h : 2 * k + 1 < l.length), (pairs l)[k]? = some (l[2 * k]'(by omega), l[2 * k + 1])
  | [], k, h => by simp at h
  | [_], k, h => by simp at h
  | u :: v :: l, 0, h => rfl
  | u :: v :: l, k + 1, h => by
    show (pairs l)[k]? = _
    rw [pairs_get l k (by simp only [List.length_cons] at h; omega)]
    have e1 : 2 * (k + 1) = 2 * k + 1 + 1 := by omega
    simp only [e1, List.getElem_cons_succ]

/-! ### the exits, link by link -/
def on (p : Nat × Nat) (u : Nat) : Bool := p.1 == u || p.2 == u
theorem exits_snoc (n : Nat) (ls : List (Nat × Nat)) (p : Nat × Nat) (u : Nat) :
    exits ⟨n, ls ++ [p]⟩ u = exits ⟨n, ls⟩ u ++ (if on p u then [ls.length] else []) := by
  unfold exits
  simp only [List.length_append, List.length_cons, List.length_nil, Nat.zero_add, List.range_succ, List.filter_append]
  congr 1
  · apply List.filter_congr
    intro i hi
    rw [List.mem_range] at hi
    rw [List.getElem?_append_left hi]
  · simp only [List.filter_cons, List.filter_nil, List.getElem?_append_right (Nat.le_refl _), Nat.sub_self, List.getElem?_cons_zero]
    rfl
/-- of a place: to which place each exit leads, and by which exit of that one one comes in -/
def entR : List (Nat × Nat) → Nat → List (Nat × Nat)
  | [], _ => []
  | (a, b) :: ls, u => entR ls u ++ (if a = u then [(b, (entR ls b).length)] else if b = u then [(a, (entR ls a).length)] else [])
def ent (ls : List (Nat × Nat)) (u : Nat) : List (Nat × Nat) := entR ls.reverse u
theorem ent_nil (u : Nat) : ent [] u = [] := rfl
theorem ent_snoc (ls : List (Nat × Nat)) (a b u : Nat) : ent (ls ++ [(a, b)]) u = ent ls u ++ (if a = u then [(b, (ent ls b).length)] else if b = u then [(a, (ent ls a).length)] else []) := by
  unfold ent
  rw [List.reverse_append]; rfl

theorem exits_lt (n : Nat) (ls : List (Nat × Nat)) (u i : Nat) (h : i ∈ exits ⟨n, ls⟩ u) : i < ls.length := by
  unfold exits at h
  rw [List.mem_filter, List.mem_range] at h
  exact h.1
theorem exits_on (n : Nat) (ls : List (Nat × Nat)) (u i : Nat) : i ∈ exits ⟨n, ls⟩ u ↔ ∃ p, ls[i]? = some p ∧ on p u = true := by
  unfold exits
  rw [List.mem_filter, List.mem_range]
  constructor
  · rintro ⟨h1, h2⟩
    refine ⟨ls[i], List.getElem?_eq_getElem h1, ?_⟩
    simp only [List.getElem?_eq_getElem h1] at h2
    exact h2
  · rintro ⟨p, h1, h2⟩
    refine ⟨(List.getElem?_eq_some_iff.mp h1).1, ?_⟩
    simp only [h1]
    exact h2
theorem takeWhile_stop {l r : List Nat} {i : Nat} (h : i ∈ l) : (l ++ r).takeWhile (fun j => j != i) = l.takeWhile (fun j => j != i) := by
  induction l with
  | nil => simp at h
  | cons a l ih =>
    by_cases e : a = i
    · subst e; simp
    · have hm : i ∈ l := by
        rcases List.mem_cons.mp h with q | q
        · exact absurd q.symm e
        · exact q
      have e' : (a != i) = true := by simpa using e
      rw [List.cons_append, List.takeWhile_cons, List.takeWhile_cons, e', ih hm]
theorem takeWhile_all {l : List Nat} {i : Nat} (h : ∀ j ∈ l, j ≠ i) : (l ++ [i]).takeWhile (fun j => j != i) = l := by
  induction l with
  | nil => simp
  | cons a l ih =>
    have e' : (a != i) = true := by simpa using h a List.mem_cons_self
    rw [List.cons_append, List.takeWhile_cons, e', ih (fun j hj => h j (List.mem_cons_of_mem _ hj))]; rfl
theorem snoc_ind {α : Type} {P : List α → Prop} (h0 : P []) (hs : ∀ l x, P l → P (l ++ [x])) : ∀ l, P l := by
  have h : ∀ l, P (List.reverse l) := by
    intro l
    induction l with
    | nil => exact h0
    | cons a l ih => rw [List.reverse_cons]; exact hs _ _ ih
  intro l
  have := h l.reverse
  rwa [List.reverse_reverse] at this
theorem degree_ent (n : Nat) (ls : List (Nat × Nat)) (u : Nat) : degree ⟨n, ls⟩ u = (ent ls u).length := by
  unfold degree
  induction ls using snoc_ind generalizing u with
  | h0 => rfl
  | hs l p ih =>
    obtain ⟨a, b⟩ := p
    rw [exits_snoc, ent_snoc, List.length_append, List.length_append, ih]
    unfold on
    by_cases h1 : a = u
    · simp [h1]
    · by_cases h2 : b = u
      · simp [h1, h2]
      · simp [h1, h2]
theorem end_left (n : Nat) (ls : List (Nat × Nat)) (p : Nat × Nat) (i u : Nat) (h : i < ls.length) : end_ ⟨n, ls ++ [p]⟩ i u = end_ ⟨n, ls⟩ i u := by
  unfold end_
  simp only [List.getElem?_append_left h]
theorem end_on (n : Nat) (ls : List (Nat × Nat)) (u i : Nat) (h : i ∈ exits ⟨n, ls⟩ u) : i ∈ exits ⟨n, ls⟩ (end_ ⟨n, ls⟩ i u) := by
  rw [exits_on] at h ⊢
  obtain ⟨p, h1, h2⟩ := h
  refine ⟨p, h1, ?_⟩
  unfold end_
  simp only [h1]
  unfold on
  by_cases e : p.1 = u
  · simp [e]
  · simp [e]
theorem out_ent (n : Nat) (ls : List (Nat × Nat)) (u e : Nat) : out ⟨n, ls⟩ u e = (ent ls u)[e]? := by
  induction ls using snoc_ind generalizing u e with
  | h0 => rfl
  | hs l p ih =>
    have hd := degree_ent n l u
    unfold degree at hd
    by_cases he : e < (ent l u).length
    · have e1 : (ent (l ++ [p]) u)[e]? = (ent l u)[e]? := by
        obtain ⟨a, b⟩ := p
        rw [ent_snoc, List.getElem?_append_left he]
      rw [e1, ← ih]
      have hi : e < (exits ⟨n, l⟩ u).length := by omega
      have hm : (exits ⟨n, l⟩ u)[e] ∈ exits ⟨n, l⟩ u := List.getElem_mem hi
      have hlt := exits_lt n l u _ hm
      have hon := end_on n l u _ hm
      unfold out
      rw [exits_snoc, List.getElem?_append_left hi, List.getElem?_eq_getElem hi]
      simp only
      rw [end_left _ _ _ _ _ hlt, exits_snoc, takeWhile_stop hon]
    · obtain ⟨a, b⟩ := p
      rw [ent_snoc, List.getElem?_append_right (by omega)]
      unfold out
      rw [exits_snoc, List.getElem?_append_right (by omega), hd]
      have hn : ∀ v, ∀ j ∈ exits ⟨n, l⟩ v, j ≠ l.length := fun v j hj => Nat.ne_of_lt (exits_lt n l v j hj)
      have hdv : ∀ v, (exits ⟨n, l⟩ v).length = (ent l v).length := fun v => degree_ent n l v
      have hend : ∀ w, end_ ⟨n, l ++ [(a, b)]⟩ l.length w = if a = w then b else a := by
        intro w
        unfold end_
        simp only [List.getElem?_append_right (Nat.le_refl _), Nat.sub_self, List.getElem?_cons_zero]
      by_cases h1 : a = u
      · subst h1
        have o1 : on (a, b) a = true := by simp [on]
        have o2 : on (a, b) b = true := by simp [on]
        simp only [o1, if_true]
        cases hk : e - (ent l a).length with
        | zero =>
          simp only [List.getElem?_cons_zero, hend, if_true]
          rw [exits_snoc, o2, if_pos rfl, takeWhile_all (hn b), hdv]
        | succ k => simp
      · by_cases h2 : b = u
        · subst h2
          have o1 : on (a, b) b = true := by simp [on]
          have o2 : on (a, b) a = true := by simp [on]
          simp only [o1, if_true, if_neg h1]
          cases hk : e - (ent l b).length with
          | zero =>
            simp only [List.getElem?_cons_zero, hend, if_neg h1]
            rw [exits_snoc, o2, if_pos rfl, takeWhile_all (hn a), hdv]
          | succ k => simp
        · have o1 : on (a, b) u = false := by simp [on, h1, h2]
          simp [o1, h1, h2]
end Sw
namespace Sw
open Ks536 (Net exits degree end_ out go dist distance joined okNet netOf)

/-! ### sound links -/
def norm (p : Nat × Nat) : Nat × Nat := (min p.1 p.2, max p.1 p.2)
def okLink (n : Nat) (p : Nat × Nat) : Prop := p.1 < n ∧ p.2 < n ∧ p.1 ≠ p.2
instance (n : Nat) (p : Nat × Nat) : Decidable (okLink n p) := by unfold okLink; infer_instance
def Sound (n : Nat) (ls : List (Nat × Nat)) : Prop := (∀ p ∈ ls, okLink n p) ∧ (ls.map norm).Nodup
instance (n : Nat) (ls : List (Nat × Nat)) : Decidable (Sound n ls) := by unfold Sound; infer_instance
theorem norm_eq (p q : Nat × Nat) : norm p = norm q ↔ ((p.1 == q.1 && p.2 == q.2) || (p.1 == q.2 && p.2 == q.1)) = true := by
  unfold norm
  simp only [Prod.mk.injEq, Bool.or_eq_true, Bool.and_eq_true, beq_iff_eq]
  omega
theorem nodup_get {α : Type} {l : List α} : l.Nodup ↔ ∀ (i j : Nat) (x : α), l[i]? = some x → l[j]? = some x → i = j := by
  unfold List.Nodup
  rw [List.pairwise_iff_getElem]
  constructor
  · intro h i j x hi hj
    obtain ⟨hi1, hi2⟩ := List.getElem?_eq_some_iff.mp hi
    obtain ⟨hj1, hj2⟩ := List.getElem?_eq_some_iff.mp hj
    rcases Nat.lt_trichotomy i j with q | q | q
    · exact absurd (hi2.trans hj2.symm) (h i j hi1 hj1 q)
    · exact q
    · exact absurd (hj2.trans hi2.symm) (h j i hj1 hi1 q)
  · intro h i j hi hj hij e
    have := h i j l[i] (List.getElem?_eq_getElem hi) (by rw [e]; exact List.getElem?_eq_getElem hj)
    omega
theorem sound_snoc (n : Nat) (l : List (Nat × Nat)) (p : Nat × Nat) : Sound n (l ++ [p]) ↔ Sound n l ∧ okLink n p ∧ ¬ norm p ∈ l.map norm := by
  unfold Sound
  rw [List.map_append, List.nodup_append]
  constructor
  · rintro ⟨h1, h2, _, h3⟩
    refine ⟨⟨fun q hq => h1 q (List.mem_append_left _ hq), h2⟩, h1 p (by simp), fun hm => h3 _ hm _ (by simp) rfl⟩
  · rintro ⟨⟨h1, h2⟩, h3, h4⟩
    refine ⟨fun q hq => ?_, h2, by simp, fun a ha b hb e => ?_⟩
    · rcases List.mem_append.mp hq with z | z
      · exact h1 q z
      · simp at z
        exact z ▸ h3
    · simp at hb
      exact h4 (hb ▸ e ▸ ha)
theorem sound_take (n : Nat) (l : List (Nat × Nat)) (i : Nat) (h : Sound n l) : Sound n (l.take i) := by
  refine ⟨fun p hp => h.1 p (List.mem_of_mem_take hp), ?_⟩
  rw [List.map_take]
  exact List.Sublist.nodup (List.take_sublist _ _) h.2
theorem okNet_iff (n : Nat) (ls : List (Nat × Nat)) : okNet ⟨n, ls⟩ = true ↔ (1 ≤ n ∧ n ≤ 7) ∧ ls.length ≤ 10 ∧ Sound n ls ∧ joined ⟨n, ls⟩ = true := by
  unfold okNet
  simp only [Bool.and_eq_true]
  have h1 : ls.all (fun p => decide (p.1 < n) && decide (p.2 < n) && p.1 != p.2) = true ↔ ∀ p ∈ ls, okLink n p := by
    rw [List.all_eq_true]
    unfold okLink
    simp only [Bool.and_eq_true, decide_eq_true_eq, bne_iff_ne, and_assoc]
  have h2 : ((List.range ls.length).all (fun i => (List.range ls.length).all fun j => i == j || match ls[i]?, ls[j]? with
      | some p, some q => !((p.1 == q.1 && p.2 == q.2) || (p.1 == q.2 && p.2 == q.1))
      | _, _ => true)) = true ↔ (ls.map norm).Nodup := by
    rw [nodup_get, List.all_eq_true]
    simp only [List.mem_range, List.all_eq_true]
    constructor
    · intro h i j x hi hj
      rw [List.getElem?_map] at hi hj
      obtain ⟨p, hp, rfl⟩ := Option.map_eq_some_iff.mp hi
      obtain ⟨q, hq, e⟩ := Option.map_eq_some_iff.mp hj
      have := h i (List.getElem?_eq_some_iff.mp hp).1 j (List.getElem?_eq_some_iff.mp hq).1
      rw [hp, hq] at this
      rcases (Bool.or_eq_true _ _).mp this with z | z
      · exact beq_iff_eq.mp z
      · have e' := (norm_eq p q).mp e.symm
        simp only [e'] at z
        cases z
    · intro h i hi j hj
      rw [List.getElem?_eq_getElem hi, List.getElem?_eq_getElem hj]
      by_cases e : i = j
      · subst e; simp
      · have hne : ¬ norm ls[i] = norm ls[j] := fun z => e (h i j (norm ls[i]) (by rw [List.getElem?_map, List.getElem?_eq_getElem hi]; rfl) (by rw [List.getElem?_map, List.getElem?_eq_getElem hj, z]; rfl))
        rw [norm_eq] at hne
        rw [Bool.not_eq_true] at hne
        simp only [hne]
        simp
  unfold Sound
  constructor
  · rintro ⟨⟨⟨⟨⟨a, b⟩, c⟩, d⟩, e⟩, f⟩
    exact ⟨⟨of_decide_eq_true a, of_decide_eq_true b⟩, of_decide_eq_true c, ⟨h1.mp d, h2.mp e⟩, f⟩
  · rintro ⟨⟨a, b⟩, c, ⟨d, e⟩, f⟩
    exact ⟨⟨⟨⟨⟨decide_eq_true a, decide_eq_true b⟩, decide_eq_true c⟩, h1.mpr d⟩, h2.mpr e⟩, f⟩

/-! ### neighbours, what is reached -/
def nb (ls : List (Nat × Nat)) (u : Nat) : List Nat := (ent ls u).map (·.1)
inductive Reach (ls : List (Nat × Nat)) (u : Nat) : Nat → Prop
  | here : Reach ls u u
  | step {v w : Nat} : Reach ls u v → w ∈ nb ls v → Reach ls u w
theorem go_any (n : Nat) (ls : List (Nat × Nat)) (u w : Nat) : ((List.range (degree ⟨n, ls⟩ u)).any fun e => go ⟨n, ls⟩ u (e + 1) == w) = true ↔ w ∈ nb ls u := by
  rw [List.any_eq_true, degree_ent]
  unfold nb
  rw [List.mem_map]
  constructor
  · rintro ⟨e, he, h⟩
    rw [List.mem_range] at he
    refine ⟨(ent ls u)[e], List.getElem_mem he, ?_⟩
    unfold go at h
    simp only [out_ent, List.getElem?_eq_getElem he] at h
    exact beq_iff_eq.mp h
  · rintro ⟨p, hp, rfl⟩
    obtain ⟨e, he, rfl⟩ := List.mem_iff_getElem.mp hp
    refine ⟨e, List.mem_range.mpr he, ?_⟩
    unfold go
    simp only [out_ent, List.getElem?_eq_getElem he]
    exact beq_self_eq_true _
/-- the places within one step more -/
def ex (t : Net) (l : List Nat) : List Nat := (List.range t.n).filter fun w => l.contains w || l.any fun u => (List.range (degree t u)).any fun e => go t u (e + 1) == w
theorem mem_ex (n : Nat) (ls : List (Nat × Nat)) (l : List Nat) (w : Nat) : w ∈ ex ⟨n, ls⟩ l ↔ w < n ∧ (w ∈ l ∨ ∃ u ∈ l, w ∈ nb ls u) := by
  unfold ex
  rw [List.mem_filter, List.mem_range, Bool.or_eq_true, List.contains_iff_mem, List.any_eq_true]
  simp only [go_any]
def lev (t : Net) : Nat → List Nat → List Nat
  | 0, l => l
  | k + 1, l => ex t (lev t k l)
theorem lev_in (t : Net) : ∀ (k : Nat) (l : List Nat), lev t k (ex t l) = lev t (k + 1) l
  | 0, _ => rfl
  | k + 1, l => by
    show ex t (lev t k (ex t l)) = ex t (lev t (k + 1) l)
    rw [lev_in t k l]
theorem dist_some (t : Net) (v : Nat) : ∀ (f : Nat) (l : List Nat) (k : Nat), dist t f l v = some k ↔ k ≤ f ∧ v ∈ lev t k l ∧ ∀ j, j < k → ¬ v ∈ lev t j l
  | 0, l, k => by
    unfold dist
    by_cases h : v ∈ l
    · rw [if_pos (List.contains_iff_mem.mpr h)]
      constructor
      · intro e; cases e; exact ⟨Nat.le_refl _, h, fun j hj => absurd hj (Nat.not_lt_zero _)⟩
      · rintro ⟨e, _⟩
        have : k = 0 := by omega
        rw [this]
    · rw [if_neg (fun z => h (List.contains_iff_mem.mp z))]
      constructor
      · intro e; cases e
      · rintro ⟨e, h2, _⟩
        have : k = 0 := by omega
        subst this
        exact absurd h2 h
  | f + 1, l, k => by
    unfold dist
    by_cases h : v ∈ l
    · rw [if_pos (List.contains_iff_mem.mpr h)]
      constructor
      · intro e; cases e; exact ⟨Nat.zero_le _, h, fun j hj => absurd hj (Nat.not_lt_zero _)⟩
      · rintro ⟨_, _, h3⟩
        by_cases hk : k = 0
        · rw [hk]
        · exact absurd h (h3 0 (by omega))
    · rw [if_neg (fun z => h (List.contains_iff_mem.mp z))]
      show (dist t f (ex t l) v).map (· + 1) = some k ↔ _
      rw [Option.map_eq_some_iff]
      constructor
      · rintro ⟨k', e, rfl⟩
        obtain ⟨a, b, c⟩ := (dist_some t v f (ex t l) k').mp e
        refine ⟨by omega, by rw [← lev_in]; exact b, fun j hj => ?_⟩
        cases j with
        | zero => exact h
        | succ j => rw [← lev_in]; exact c j (by omega)
      · rintro ⟨a, b, c⟩
        cases k with
        | zero => exact absurd b h
        | succ k =>
          refine ⟨k, (dist_some t v f (ex t l) k).mpr ⟨by omega, by rw [lev_in]; exact b, fun j hj => ?_⟩, rfl⟩
          rw [lev_in]; exact c (j + 1) (by omega)
theorem dist_isSome (t : Net) (v f : Nat) (l : List Nat) : (dist t f l v).isSome = true ↔ ∃ k, k ≤ f ∧ v ∈ lev t k l := by
  constructor
  · intro h
    obtain ⟨k, hk⟩ := Option.isSome_iff_exists.mp h
    obtain ⟨a, b, _⟩ := (dist_some t v f l k).mp hk
    exact ⟨k, a, b⟩
  · rintro ⟨k, hk, hv⟩
    have : ∃ m, m ≤ k ∧ v ∈ lev t m l ∧ ∀ j, j < m → ¬ v ∈ lev t j l := by
      induction k using Nat.strongRecOn with
      | ind k ih =>
        by_cases h : ∃ j, j < k ∧ v ∈ lev t j l
        · obtain ⟨j, hj, hvj⟩ := h
          obtain ⟨m, hm, r⟩ := ih j hj (by omega) hvj
          exact ⟨m, by omega, r⟩
        · exact ⟨k, Nat.le_refl _, hv, fun j hj z => h ⟨j, hj, z⟩⟩
    obtain ⟨m, hm, r⟩ := this
    rw [(dist_some t v f l m).mpr ⟨by omega, r⟩]; rfl

/-! ### counting -/
theorem filter_lt {l : List Nat} {P Q : Nat → Bool} (h : ∀ x ∈ l, P x = true → Q x = true) (x : Nat) (hx : x ∈ l) (hp : P x = false) (hq : Q x = true) : (l.filter P).length < (l.filter Q).length := by
  induction l with
  | nil => simp at hx
  | cons a l ih =>
    have hle : ∀ l' : List Nat, (∀ x ∈ l', P x = true → Q x = true) → (l'.filter P).length ≤ (l'.filter Q).length := by
      intro l' h'
      induction l' with
      | nil => simp
      | cons b l' ih' =>
        have := ih' fun x hx => h' x (List.mem_cons_of_mem _ hx)
        have hb := h' b List.mem_cons_self
        cases e : P b with
        | true => simp [e, hb e, this]
        | false =>
          cases e2 : Q b with
          | true => simp [e, e2]; omega
          | false => simp [e, e2, this]
    rcases List.mem_cons.mp hx with q | q
    · subst q
      have := hle l fun x hx => h x (List.mem_cons_of_mem _ hx)
      simp [hp, hq]; omega
    · have h1 := ih (fun x hx => h x (List.mem_cons_of_mem _ hx)) q
      have hb := h a List.mem_cons_self
      cases e : P a with
      | true => simp [e, hb e, h1]
      | false =>
        cases e2 : Q a with
        | true => simp [e, e2]; omega
        | false => simp [e, e2, h1]
theorem nodup_len : ∀ (n : Nat) (R : List Nat), R.Nodup → (∀ x ∈ R, x < n) → R.length ≤ n
  | 0, R, _, h => by
    cases R with
    | nil => simp
    | cons a R => exact absurd (h a List.mem_cons_self) (Nat.not_lt_zero _)
  | n + 1, R, nd, h => by
    by_cases hm : n ∈ R
    · have := nodup_len n (R.erase n) (nd.erase n) fun x hx => by
        obtain ⟨a, b⟩ := (List.Nodup.mem_erase_iff nd).mp hx
        have := h x b
        omega
      rw [List.length_erase_of_mem hm] at this
      omega
    · have := nodup_len n R nd fun x hx => by
        have h1 := h x hx
        have : x ≠ n := fun e => hm (e ▸ hx)
        omega
      omega
theorem nodup_full (n : Nat) (R : List Nat) (nd : R.Nodup) (h : ∀ x ∈ R, x < n) (e : R.length = n) (v : Nat) (hv : v < n) : v ∈ R := by
  by_cases hm : v ∈ R
  · exact hm
  · have := nodup_len n (v :: R) (List.nodup_cons.mpr ⟨hm, nd⟩) fun x hx => by
      rcases List.mem_cons.mp hx with q | q
      · omega
      · exact h x q
    simp only [List.length_cons] at this
    omega
theorem full_len (n : Nat) (R : List Nat) (nd : R.Nodup) (h : ∀ x ∈ R, x < n) (hf : ∀ v, v < n → v ∈ R) : R.length = n := by
  have h1 := nodup_len n R nd h
  have h2 : (List.range n).length ≤ R.length := by
    have : ∀ (l R : List Nat), l.Nodup → (∀ x ∈ l, x ∈ R) → l.length ≤ R.length := by
      intro l
      induction l with
      | nil => intro R _ _; simp
      | cons a l ih =>
        intro R nd h
        obtain ⟨n1, n2⟩ := List.nodup_cons.mp nd
        have ha := h a List.mem_cons_self
        have := ih (R.erase a) n2 fun x hx => by
          have : x ≠ a := fun e => n1 (e ▸ hx)
          exact (List.mem_erase_of_ne this).mpr (h x (List.mem_cons_of_mem _ hx))
        rw [List.length_erase_of_mem ha] at this
        have : 0 < R.length := List.length_pos_of_mem ha
        simp only [List.length_cons]
        omega
    exact this _ _ List.nodup_range fun x hx => hf x (List.mem_range.mp hx)
  rw [List.length_range] at h2
  omega

theorem ent_lt (n : Nat) : ∀ (ls : List (Nat × Nat)), (∀ p ∈ ls, p.1 < n ∧ p.2 < n) → ∀ u, ∀ p ∈ ent ls u, p.1 < n := by
  intro ls
  induction ls using snoc_ind with
  | h0 => intro _ u p hp; simp [ent_nil] at hp
  | hs l q ih =>
    intro h u p hp
    obtain ⟨a, b⟩ := q
    rw [ent_snoc] at hp
    have hq := h (a, b) (by simp)
    rcases List.mem_append.mp hp with z | z
    · exact ih (fun p hp => h p (List.mem_append_left _ hp)) u p z
    · split at z
      · simp at z; subst z; exact hq.2
      · split at z
        · simp at z; subst z; exact hq.1
        · simp at z
theorem nb_lt {n : Nat} {ls : List (Nat × Nat)} (h : ∀ p ∈ ls, p.1 < n ∧ p.2 < n) {u w : Nat} (hw : w ∈ nb ls u) : w < n := by
  unfold nb at hw
  obtain ⟨p, hp, rfl⟩ := List.mem_map.mp hw
  exact ent_lt n ls h u p hp
theorem reach_lt {n : Nat} {ls : List (Nat × Nat)} (h : ∀ p ∈ ls, p.1 < n ∧ p.2 < n) {u v : Nat} (hu : u < n) (r : Reach ls u v) : v < n := by
  cases r with
  | here => exact hu
  | step _ m => exact nb_lt h m
theorem lev_lt {n : Nat} {ls : List (Nat × Nat)} {u : Nat} (hu : u < n) (k x : Nat) (hx : x ∈ lev ⟨n, ls⟩ k [u]) : x < n := by
  cases k with
  | zero =>
    have : x = u := by simpa [lev] using hx
    omega
  | succ k => exact ((mem_ex n ls _ x).mp hx).1
theorem lev_mono {n : Nat} {ls : List (Nat × Nat)} {u : Nat} (hu : u < n) (k x : Nat) (hx : x ∈ lev ⟨n, ls⟩ k [u]) : x ∈ lev ⟨n, ls⟩ (k + 1) [u] :=
  (mem_ex n ls _ x).mpr ⟨lev_lt hu k x hx, .inl hx⟩
theorem lev_reach {n : Nat} {ls : List (Nat × Nat)} {u : Nat} : ∀ (k x : Nat), x ∈ lev ⟨n, ls⟩ k [u] → Reach ls u x
  | 0, x, hx => by
    have : x = u := by simpa [lev] using hx
    subst this; exact .here
  | k + 1, x, hx => by
    rcases ((mem_ex n ls _ x).mp hx).2 with h | ⟨w, hw, h⟩
    · exact lev_reach k x h
    · exact .step (lev_reach k w hw) h
def Closed (ls : List (Nat × Nat)) (l : List Nat) : Prop := ∀ u ∈ l, ∀ w ∈ nb ls u, w ∈ l
theorem closed_reach {ls : List (Nat × Nat)} {l : List Nat} {u v : Nat} (c : Closed ls l) (hu : u ∈ l) (r : Reach ls u v) : v ∈ l := by
  induction r with
  | here => exact hu
  | step _ m ih => exact c _ ih _ m
theorem lev_grow {n : Nat} {ls : List (Nat × Nat)} {u : Nat} (hl : ∀ p ∈ ls, p.1 < n ∧ p.2 < n) (hu : u < n) : ∀ k, (∃ j, j ≤ k ∧ Closed ls (lev ⟨n, ls⟩ j [u])) ∨ k + 1 ≤ ((List.range n).filter fun x => decide (x ∈ lev ⟨n, ls⟩ k [u])).length
  | 0 => by
    refine .inr ?_
    have : u ∈ (List.range n).filter fun x => decide (x ∈ lev ⟨n, ls⟩ 0 [u]) := by
      rw [List.mem_filter, List.mem_range]
      exact ⟨hu, by simp [lev]⟩
    exact List.length_pos_of_mem this
  | k + 1 => by
    rcases lev_grow hl hu k with ⟨j, hj, c⟩ | h
    · exact .inl ⟨j, by omega, c⟩
    · by_cases c : Closed ls (lev ⟨n, ls⟩ k [u])
      · exact .inl ⟨k, by omega, c⟩
      · refine .inr ?_
        have : ∃ x, x < n ∧ ¬ x ∈ lev ⟨n, ls⟩ k [u] ∧ x ∈ lev ⟨n, ls⟩ (k + 1) [u] := by
          apply Classical.byContradiction
          intro q
          apply c
          intro y hy w hw
          apply Classical.byContradiction
          intro hn
          exact q ⟨w, nb_lt hl hw, hn, (mem_ex n ls _ w).mpr ⟨nb_lt hl hw, .inr ⟨y, hy, hw⟩⟩⟩
        obtain ⟨x, x1, x2, x3⟩ := this
        have := filter_lt (l := List.range n) (P := fun x => decide (x ∈ lev ⟨n, ls⟩ k [u])) (Q := fun x => decide (x ∈ lev ⟨n, ls⟩ (k + 1) [u]))
          (fun y _ hy => by simp only [decide_eq_true_eq] at hy ⊢; exact lev_mono hu k y hy) x (List.mem_range.mpr x1) (by simp [x2]) (by simp [x3])
        omega
theorem distance_isSome {n : Nat} {ls : List (Nat × Nat)} {u : Nat} (hl : ∀ p ∈ ls, p.1 < n ∧ p.2 < n) (hu : u < n) (v : Nat) : (distance ⟨n, ls⟩ u v).isSome = true ↔ Reach ls u v := by
  unfold distance
  rw [dist_isSome]
  constructor
  · rintro ⟨k, _, h⟩
    exact lev_reach k v h
  · intro r
    rcases lev_grow hl hu n with ⟨j, hj, c⟩ | h
    · refine ⟨j, hj, closed_reach c ?_ r⟩
      have : ∀ j, u ∈ lev ⟨n, ls⟩ j [u] := by
        intro j
        induction j with
        | zero => simp [lev]
        | succ j ih => exact lev_mono hu j u ih
      exact this j
    · have := List.length_filter_le (fun x => decide (x ∈ lev ⟨n, ls⟩ n [u])) (List.range n)
      rw [List.length_range] at this
      omega
theorem joined_iff {n : Nat} {ls : List (Nat × Nat)} (hl : ∀ p ∈ ls, p.1 < n ∧ p.2 < n) (hn : 0 < n) : joined ⟨n, ls⟩ = true ↔ ∀ v, v < n → Reach ls 0 v := by
  unfold joined
  rw [List.all_eq_true]
  simp only [List.mem_range, distance_isSome hl hn]

/-! ### the whole net -/
def isNet (n : Nat) (l : List Nat) : Bool := (netOf n l).isSome
theorem netOf_eq (n : Nat) (l : List Nat) : netOf n l = if (1 ≤ n ∧ n ≤ 7) ∧ l.length % 2 = 0 ∧ l.length ≤ 20 ∧ Sound n (pairs l) ∧ joined ⟨n, pairs l⟩ = true then some ⟨n, pairs l⟩ else none := by
  have en : Ks536.NODES = 7 := rfl
  have el : Ks536.LINKS = 10 := rfl
  have hp := pairs_len l
  unfold netOf
  by_cases h1 : 1 ≤ n ∧ n ≤ 7
  · rw [if_neg (show ¬ (n < 1 ∨ Ks536.NODES < n) by omega)]
    by_cases h2 : l.length % 2 = 0
    · rw [linksOf_even l h2]
      show (if Ks536.LINKS < (pairs l).length then none else if okNet ⟨n, pairs l⟩ then some (⟨n, pairs l⟩ : Net) else none) = _
      by_cases h3 : l.length ≤ 20
      · rw [if_neg (show ¬ Ks536.LINKS < (pairs l).length by omega)]
        by_cases h4 : Sound n (pairs l) ∧ joined ⟨n, pairs l⟩ = true
        · rw [if_pos ((okNet_iff n _).mpr ⟨h1, by omega, h4⟩), if_pos ⟨h1, h2, h3, h4⟩]
        · rw [if_neg (fun z => h4 ((okNet_iff n _).mp z).2.2), if_neg (fun z => h4 z.2.2.2)]
      · rw [if_pos (show Ks536.LINKS < (pairs l).length by omega), if_neg (fun z => h3 z.2.2.1)]
    · rw [linksOf_odd l h2, if_neg (fun z => h2 z.2.1)]
  · rw [if_pos (show n < 1 ∨ Ks536.NODES < n by omega), if_neg (fun z => h1 z.1)]
theorem netOf_some {n : Nat} {l : List Nat} (h : isNet n l = true) : netOf n l = some ⟨n, pairs l⟩ ∧ (1 ≤ n ∧ n ≤ 7) ∧ l.length % 2 = 0 ∧ l.length ≤ 20 ∧ Sound n (pairs l) := by
  unfold isNet at h
  rw [netOf_eq] at h ⊢
  split at h
  · rename_i q
    exact ⟨if_pos q, q.1, q.2.1, q.2.2.1, q.2.2.2.1⟩
  · cases h
theorem netOf_none {n : Nat} {l : List Nat} (h : isNet n l = false) : netOf n l = none := by
  unfold isNet at h
  cases e : netOf n l with
  | none => rfl
  | some t => rw [e] at h; cases h
end Sw
/-! The search from a place: the places met one behind another, each with its steps; neighbours both ways. -/
namespace Sw
open Ks536 (Net distance joined)
/-- the places of what was met -/
def plc (S : List (Nat × Nat)) : List Nat := S.map (·.1)
def putOne (c : Nat) (S : List (Nat × Nat)) (w : Nat) : List (Nat × Nat) := if w ∈ plc S then S else S ++ [(w, c)]
def putAll (c : Nat) (S : List (Nat × Nat)) (ws : List Nat) : List (Nat × Nat) := ws.foldl (putOne c) S
theorem putAll_snoc (c : Nat) (S : List (Nat × Nat)) (ws : List Nat) (w : Nat) : putAll c S (ws ++ [w]) = putOne c (putAll c S ws) w := by
  unfold putAll
  rw [List.foldl_append]; rfl
theorem plc_snoc (S : List (Nat × Nat)) (p : Nat × Nat) : plc (S ++ [p]) = plc S ++ [p.1] := by
  unfold plc
  rw [List.map_append]; rfl
theorem mem_plc {S : List (Nat × Nat)} {x : Nat} : x ∈ plc S ↔ ∃ e, (x, e) ∈ S := by
  unfold plc
  rw [List.mem_map]
  exact ⟨fun ⟨p, hp, e⟩ => ⟨p.2, by rw [← e]; exact hp⟩, fun ⟨e, h⟩ => ⟨_, h, rfl⟩⟩
theorem putAll_in (c : Nat) (S : List (Nat × Nat)) (ws : List Nat) : ∀ w ∈ ws, w ∈ plc (putAll c S ws) := by
  induction ws using snoc_ind with
  | h0 => intro w hw; simp at hw
  | hs l a ih =>
    intro w hw
    rw [putAll_snoc]
    unfold putOne
    split
    · rcases List.mem_append.mp hw with h | h
      · exact ih w h
      · simp at h; subst h; assumption
    · rw [plc_snoc, List.mem_append]
      rcases List.mem_append.mp hw with h | h
      · exact .inl (ih w h)
      · exact .inr h
theorem putAll_pre (c : Nat) (S : List (Nat × Nat)) (ws : List Nat) : ∃ m, putAll c S ws = S ++ m ∧ ∀ p ∈ m, p.2 = c ∧ p.1 ∈ ws := by
  induction ws using snoc_ind with
  | h0 => exact ⟨[], by simp [putAll], by simp⟩
  | hs l w ih =>
    obtain ⟨m, e, h⟩ := ih
    rw [putAll_snoc, e]
    unfold putOne
    split
    · exact ⟨m, rfl, fun p hp => ⟨(h p hp).1, List.mem_append_left _ (h p hp).2⟩⟩
    · refine ⟨m ++ [(w, c)], by rw [List.append_assoc], fun p hp => ?_⟩
      rcases List.mem_append.mp hp with z | z
      · exact ⟨(h p z).1, List.mem_append_left _ (h p z).2⟩
      · simp at z; subst z; exact ⟨rfl, by simp⟩
theorem putAll_nodup {c : Nat} {S : List (Nat × Nat)} (h : (plc S).Nodup) (ws : List Nat) : (plc (putAll c S ws)).Nodup := by
  induction ws using snoc_ind with
  | h0 => exact h
  | hs l w ih =>
    rw [putAll_snoc]
    unfold putOne
    split
    · exact ih
    · rename_i hw
      rw [plc_snoc, List.nodup_append]
      refine ⟨ih, by simp, ?_⟩
      intro a ha b hb
      simp at hb
      subst hb
      exact fun e => hw (e ▸ ha)
theorem plc_uniq {S : List (Nat × Nat)} (h : (plc S).Nodup) {x e f : Nat} (h1 : (x, e) ∈ S) (h2 : (x, f) ∈ S) : e = f := by
  obtain ⟨i, hi, ei⟩ := List.mem_iff_getElem.mp h1
  obtain ⟨j, hj, ej⟩ := List.mem_iff_getElem.mp h2
  have gi : S[i]? = some (x, e) := by rw [List.getElem?_eq_getElem hi, ei]
  have gj : S[j]? = some (x, f) := by rw [List.getElem?_eq_getElem hj, ej]
  have := nodup_get.mp h i j x (by unfold plc; rw [List.getElem?_map, gi]; rfl) (by unfold plc; rw [List.getElem?_map, gj]; rfl)
  subst this
  rw [gi] at gj
  cases gj
  rfl
/-- what holds between two turns of the search -/
structure Way (n : Nat) (ls : List (Nat × Nat)) (u : Nat) (S : List (Nat × Nat)) (k : Nat) : Prop where
  nd : (plc S).Nodup
  start : (u, 0) ∈ S
  lt : ∀ p ∈ S, p.1 < n
  lev : ∀ p ∈ S, p.1 ∈ lev ⟨n, ls⟩ p.2 [u]
  up : ∀ (i j : Nat) (p q : Nat × Nat), i ≤ j → S[i]? = some p → S[j]? = some q → p.2 ≤ q.2
  near : ∀ (i : Nat) (q : Nat × Nat), k ≤ i → S[i]? = some q → ∀ p ∈ S, p.2 ≤ q.2 + 1
  done : ∀ (i : Nat) (p : Nat × Nat), i < k → S[i]? = some p → ∀ w ∈ nb ls p.1, ∃ e, (w, e) ∈ S ∧ e ≤ p.2 + 1
  le : k ≤ S.length
theorem Way.init {n : Nat} {ls : List (Nat × Nat)} {u : Nat} (hu : u < n) : Way n ls u [(u, 0)] 0 where
  nd := by simp [plc]
  start := by simp
  lt := by simpa using hu
  lev := fun p hp => by
    have : p = (u, 0) := by simpa using hp
    subst this
    simp [Sw.lev]
  up := fun i j p q _ hi hj => by
    have : p = (u, 0) := by simpa using List.mem_of_getElem? hi
    subst this
    exact Nat.zero_le _
  near := fun i q _ _ p hp => by
    have : p = (u, 0) := by simpa using hp
    subst this
    exact Nat.zero_le _
  done := fun i p h => absurd h (Nat.not_lt_zero _)
  le := Nat.zero_le _
theorem Way.step {n : Nat} {ls : List (Nat × Nat)} {u : Nat} {S : List (Nat × Nat)} {k : Nat} {x : Nat × Nat} (hl : ∀ p ∈ ls, p.1 < n ∧ p.2 < n) (M : Way n ls u S k) (hx : S[k]? = some x) : Way n ls u (putAll (x.2 + 1) S (nb ls x.1)) (k + 1) := by
  obtain ⟨m, e, hm⟩ := putAll_pre (x.2 + 1) S (nb ls x.1)
  have hin := putAll_in (x.2 + 1) S (nb ls x.1)
  have hnd := putAll_nodup (c := x.2 + 1) M.nd (nb ls x.1)
  rw [e] at hin hnd ⊢
  have hk := (List.getElem?_eq_some_iff.mp hx).1
  have hxm := List.mem_of_getElem? hx
  have hS : ∀ p ∈ S, p.2 ≤ x.2 + 1 := M.near k x (Nat.le_refl _) hx
  have hS' : ∀ p ∈ S ++ m, p.2 ≤ x.2 + 1 := fun p hp => by
    rcases List.mem_append.mp hp with z | z
    · exact hS p z
    · have := (hm p z).1; omega
  have hx' : (S ++ m)[k]? = some x := by rw [List.getElem?_append_left hk]; exact hx
  have up : ∀ (i j : Nat) (p q : Nat × Nat), i ≤ j → (S ++ m)[i]? = some p → (S ++ m)[j]? = some q → p.2 ≤ q.2 := by
    intro i j p q hij hi hj
    by_cases hj' : j < S.length
    · rw [List.getElem?_append_left hj'] at hj
      rw [List.getElem?_append_left (by omega)] at hi
      exact M.up i j p q hij hi hj
    · rw [List.getElem?_append_right (by omega)] at hj
      have h1 := (hm q (List.mem_of_getElem? hj)).1
      have h2 := hS' p (List.mem_of_getElem? hi)
      omega
  refine ⟨hnd, List.mem_append_left _ M.start, fun p hp => ?_, fun p hp => ?_, up, fun i q hi hq p hp => ?_, fun i p hi hp w hw => ?_, by rw [List.length_append]; omega⟩
  · rcases List.mem_append.mp hp with z | z
    · exact M.lt p z
    · exact nb_lt hl (hm p z).2
  · rcases List.mem_append.mp hp with z | z
    · exact M.lev p z
    · rw [(hm p z).1]
      exact (mem_ex n ls _ _).mpr ⟨nb_lt hl (hm p z).2, .inr ⟨x.1, M.lev x hxm, (hm p z).2⟩⟩
  · have h1 := up k i x q (by omega) hx' hq
    have h2 := hS' p hp
    omega
  · by_cases h : i = k
    · subst h
      rw [hx'] at hp
      cases hp
      obtain ⟨e, he⟩ := mem_plc.mp (hin w hw)
      exact ⟨e, he, hS' _ he⟩
    · rw [List.getElem?_append_left (by omega)] at hp
      obtain ⟨e, he, hle⟩ := M.done i p (by omega) hp w hw
      exact ⟨e, List.mem_append_left _ he, hle⟩
theorem Way.plc_lt {n : Nat} {ls : List (Nat × Nat)} {u : Nat} {S : List (Nat × Nat)} {k : Nat} (M : Way n ls u S k) : ∀ x ∈ plc S, x < n := fun x hx => by
  obtain ⟨e, he⟩ := mem_plc.mp hx
  exact M.lt _ he
theorem Way.len_le {n : Nat} {ls : List (Nat × Nat)} {u : Nat} {S : List (Nat × Nat)} {k : Nat} (M : Way n ls u S k) : S.length ≤ n := by
  have := nodup_len n (plc S) M.nd M.plc_lt
  unfold plc at this
  rw [List.length_map] at this
  exact this
theorem Way.low {n : Nat} {ls : List (Nat × Nat)} {u : Nat} {S : List (Nat × Nat)} (M : Way n ls u S S.length) : ∀ (j x : Nat), x ∈ Sw.lev ⟨n, ls⟩ j [u] → ∃ e, (x, e) ∈ S ∧ e ≤ j
  | 0, x, hx => by
    have : x = u := by simpa [Sw.lev] using hx
    subst this
    exact ⟨0, M.start, Nat.le_refl _⟩
  | j + 1, x, hx => by
    rcases ((mem_ex n ls _ x).mp hx).2 with h | ⟨w, hw, h⟩
    · obtain ⟨e, he, hle⟩ := M.low j x h
      exact ⟨e, he, by omega⟩
    · obtain ⟨e, he, hle⟩ := M.low j w hw
      obtain ⟨i, hi, ei⟩ := List.mem_iff_getElem.mp he
      obtain ⟨f, hf, hle2⟩ := M.done i (w, e) hi (by rw [List.getElem?_eq_getElem hi, ei]) x h
      exact ⟨f, hf, by simp only at hle2; omega⟩
theorem Way.reach {n : Nat} {ls : List (Nat × Nat)} {u : Nat} {S : List (Nat × Nat)} (M : Way n ls u S S.length) {x : Nat} : x ∈ plc S ↔ Reach ls u x := by
  constructor
  · intro h
    obtain ⟨e, he⟩ := mem_plc.mp h
    exact lev_reach e x (M.lev _ he)
  · intro r
    refine closed_reach (l := plc S) (fun v hv w hw => ?_) (mem_plc.mpr ⟨0, M.start⟩) r
    obtain ⟨e, he⟩ := mem_plc.mp hv
    obtain ⟨i, hi, ei⟩ := List.mem_iff_getElem.mp he
    obtain ⟨f, hf, _⟩ := M.done i (v, e) hi (by rw [List.getElem?_eq_getElem hi, ei]) w hw
    exact mem_plc.mpr ⟨f, hf⟩
theorem Way.dist {n : Nat} {ls : List (Nat × Nat)} {u : Nat} {S : List (Nat × Nat)} (hl : ∀ p ∈ ls, p.1 < n ∧ p.2 < n) (hu : u < n) (M : Way n ls u S S.length) {x e : Nat} (h : (x, e) ∈ S) : distance ⟨n, ls⟩ u x = some e := by
  have hr : Reach ls u x := M.reach.mp (mem_plc.mpr ⟨e, h⟩)
  obtain ⟨k, hk⟩ := Option.isSome_iff_exists.mp ((distance_isSome hl hu x).mpr hr)
  have hk2 := hk
  unfold distance at hk2
  obtain ⟨_, h2, h3⟩ := (dist_some _ _ _ _ _).mp hk2
  obtain ⟨f, hf, hle⟩ := M.low k x h2
  have ef := plc_uniq M.nd h hf
  subst ef
  rcases Nat.lt_or_ge e k with z | z
  · exact absurd (M.lev _ h) (h3 e z)
  · have : k = e := by omega
    rw [hk, this]
theorem Way.joined {n : Nat} {ls : List (Nat × Nat)} {S : List (Nat × Nat)} (hl : ∀ p ∈ ls, p.1 < n ∧ p.2 < n) (hn : 0 < n) (M : Way n ls 0 S S.length) : decide (S.length = n) = joined ⟨n, ls⟩ := by
  have hpl : (plc S).length = S.length := by unfold plc; rw [List.length_map]
  rw [Bool.eq_iff_iff, decide_eq_true_eq, joined_iff hl hn]
  constructor
  · intro e v hv
    exact M.reach.mp (nodup_full n (plc S) M.nd M.plc_lt (by omega) v hv)
  · intro h
    rw [← hpl]
    exact full_len n (plc S) M.nd M.plc_lt fun v hv => M.reach.mpr (h v hv)

/-! ### neighbours both ways -/
theorem mem_nb (ls : List (Nat × Nat)) (u w : Nat) : w ∈ nb ls u ↔ (u, w) ∈ ls ∨ (w, u) ∈ ls := by
  unfold nb
  induction ls using snoc_ind with
  | h0 => simp [ent_nil]
  | hs l p ih =>
    obtain ⟨a, b⟩ := p
    rw [ent_snoc, List.map_append, List.mem_append, ih]
    simp only [List.mem_append, List.mem_singleton, Prod.mk.injEq]
    by_cases h1 : a = u
    · rw [if_pos h1]
      simp only [List.map_cons, List.map_nil, List.mem_singleton]
      constructor
      · rintro ((h | h) | h)
        · exact .inl (.inl h)
        · exact .inr (.inl h)
        · exact .inl (.inr ⟨h1.symm, h⟩)
      · rintro ((h | h) | (h | h))
        · exact .inl (.inl h)
        · exact .inr h.2
        · exact .inl (.inr h)
        · exact .inr (by omega)
    · rw [if_neg h1]
      by_cases h2 : b = u
      · rw [if_pos h2]
        simp only [List.map_cons, List.map_nil, List.mem_singleton]
        constructor
        · rintro ((h | h) | h)
          · exact .inl (.inl h)
          · exact .inr (.inl h)
          · exact .inr (.inr ⟨h, h2.symm⟩)
        · rintro ((h | h) | (h | h))
          · exact .inl (.inl h)
          · exact absurd h.1.symm h1
          · exact .inl (.inr h)
          · exact .inr h.1
      · rw [if_neg h2]
        simp only [List.map_nil, List.not_mem_nil, or_false]
        constructor
        · rintro (h | h)
          · exact .inl (.inl h)
          · exact .inr (.inl h)
        · rintro ((h | h) | (h | h))
          · exact .inl h
          · exact absurd h.1.symm h1
          · exact .inr h
          · exact absurd h.2.symm h2
theorem nb_symm {ls : List (Nat × Nat)} {u w : Nat} (h : w ∈ nb ls u) : u ∈ nb ls w := by
  rw [mem_nb] at h ⊢
  exact h.symm
theorem Reach.trans {ls : List (Nat × Nat)} {u v w : Nat} (h : Reach ls u v) (g : Reach ls v w) : Reach ls u w := by
  induction g with
  | here => exact h
  | step _ m ih => exact .step ih m
theorem Reach.symm {ls : List (Nat × Nat)} {u v : Nat} (h : Reach ls u v) : Reach ls v u := by
  induction h with
  | here => exact .here
  | step _ m ih => exact (Reach.step .here (nb_symm m)).trans ih
/-- of a net every place is reached from every place -/
theorem reach_all {n : Nat} {ls : List (Nat × Nat)} (hl : ∀ p ∈ ls, p.1 < n ∧ p.2 < n) (hj : joined ⟨n, ls⟩ = true) {u v : Nat} (hu : u < n) (hv : v < n) : Reach ls u v := by
  have h := (joined_iff hl (by omega)).mp hj
  exact (h u hu).symm.trans (h v hv)
end Sw
/-! Who looks alike for so many steps: by the tables of exits; two nets as one; the bound. -/
namespace Sw
open Ks536 (Net degree out)

/-- the table of a net: of each place its exits (to which place, by which exit of that one) -/
abbrev Exs := Nat → List (Nat × Nat)
/-- alike for k steps -/
def lk (E F : Exs) : Nat → Nat → Nat → Bool
  | 0, u, v => (E u).length == (F v).length
  | k + 1, u, v => (E u).length == (F v).length && ((E u).zip (F v)).all fun q => q.1.2 == q.2.2 && lk E F k q.1.1 q.2.1
/-- alike for k steps, said by the exits -/
theorem lk_zero {E F : Exs} {u v : Nat} : lk E F 0 u v = true ↔ (E u).length = (F v).length := by
  show ((E u).length == (F v).length) = true ↔ _
  exact beq_iff_eq
theorem lk_succ {E F : Exs} {k u v : Nat} : lk E F (k + 1) u v = true ↔ (E u).length = (F v).length ∧ ∀ (e : Nat) (a b : Nat × Nat), (E u)[e]? = some a → (F v)[e]? = some b → a.2 = b.2 ∧ lk E F k a.1 b.1 = true := by
  show ((E u).length == (F v).length && ((E u).zip (F v)).all fun q => q.1.2 == q.2.2 && lk E F k q.1.1 q.2.1) = true ↔ _
  rw [Bool.and_eq_true, beq_iff_eq, List.all_eq_true]
  refine and_congr Iff.rfl ⟨fun h e a b ha hb => ?_, fun h q hq => ?_⟩
  · have hm : (a, b) ∈ (E u).zip (F v) := by
      refine List.mem_of_getElem? (i := e) ?_
      rw [List.getElem?_zip_eq_some]
      exact ⟨ha, hb⟩
    have := h (a, b) hm
    rw [Bool.and_eq_true, beq_iff_eq] at this
    exact this
  · obtain ⟨e, he, rfl⟩ := List.mem_iff_getElem.mp hq
    have hz : ((E u).zip (F v))[e]? = some ((E u).zip (F v))[e] := List.getElem?_eq_getElem he
    obtain ⟨h1, h2⟩ := List.getElem?_zip_eq_some.mp hz
    have := h e _ _ h1 h2
    rw [Bool.and_eq_true, beq_iff_eq]
    exact this
theorem lk_deg {E F : Exs} {k u v : Nat} (h : lk E F k u v = true) : (E u).length = (F v).length := by
  cases k with
  | zero => exact lk_zero.mp h
  | succ k => exact (lk_succ.mp h).1
theorem lk_down {E F : Exs} : ∀ {k u v : Nat}, lk E F (k + 1) u v = true → lk E F k u v = true
  | 0, u, v, h => lk_zero.mpr (lk_deg h)
  | k + 1, u, v, h => by
    obtain ⟨h1, h2⟩ := lk_succ.mp h
    exact lk_succ.mpr ⟨h1, fun e a b ha hb => ⟨(h2 e a b ha hb).1, lk_down (h2 e a b ha hb).2⟩⟩
theorem lk_anti {E F : Exs} {j k u v : Nat} (hjk : j ≤ k) (h : lk E F k u v = true) : lk E F j u v = true := by
  induction k with
  | zero =>
    have : j = 0 := by omega
    subst this; exact h
  | succ k ih =>
    by_cases e : j = k + 1
    · subst e; exact h
    · exact ih (by omega) (lk_down h)
theorem lk_refl (E : Exs) : ∀ (k u : Nat), lk E E k u u = true
  | 0, u => lk_zero.mpr rfl
  | k + 1, u => lk_succ.mpr ⟨rfl, fun e a b ha hb => by
      rw [ha] at hb
      cases hb
      exact ⟨rfl, lk_refl E k a.1⟩⟩
theorem lk_symm {E F : Exs} : ∀ {k u v : Nat}, lk E F k u v = true → lk F E k v u = true
  | 0, u, v, h => lk_zero.mpr (lk_deg h).symm
  | k + 1, u, v, h => by
    obtain ⟨h1, h2⟩ := lk_succ.mp h
    exact lk_succ.mpr ⟨h1.symm, fun e a b ha hb => ⟨(h2 e b a hb ha).1.symm, lk_symm (h2 e b a hb ha).2⟩⟩
theorem lk_trans {E F G : Exs} : ∀ {k u v w : Nat}, lk E F k u v = true → lk F G k v w = true → lk E G k u w = true
  | 0, u, v, w, h, g => lk_zero.mpr ((lk_deg h).trans (lk_deg g))
  | k + 1, u, v, w, h, g => by
    obtain ⟨h1, h2⟩ := lk_succ.mp h
    obtain ⟨g1, g2⟩ := lk_succ.mp g
    refine lk_succ.mpr ⟨h1.trans g1, fun e a c ha hc => ?_⟩
    have he : e < (F v).length := by
      have := (List.getElem?_eq_some_iff.mp ha).1
      omega
    have hb := List.getElem?_eq_getElem he
    exact ⟨(h2 e a _ ha hb).1.trans (g2 e _ c hb hc).1, lk_trans (h2 e a _ ha hb).2 (g2 e _ c hb hc).2⟩

/-! ### one table of N places: the bound -/
def Within (E : Exs) (N : Nat) : Prop := ∀ u, u < N → ∀ p ∈ E u, p.1 < N
/-- at k nobody is told apart who wasn't -/
def Still (E : Exs) (N k : Nat) : Prop := ∀ u v, u < N → v < N → lk E E k u v = true → lk E E (k + 1) u v = true
theorem Still.next {E : Exs} {N k : Nat} (W : Within E N) (S : Still E N k) : Still E N (k + 1) := fun u v hu hv h => by
  obtain ⟨h1, h2⟩ := lk_succ.mp h
  refine lk_succ.mpr ⟨h1, fun e a b ha hb => ⟨(h2 e a b ha hb).1, ?_⟩⟩
  exact S a.1 b.1 (W u hu a (List.mem_of_getElem? ha)) (W v hv b (List.mem_of_getElem? hb)) (h2 e a b ha hb).2
theorem Still.ever {E : Exs} {N k : Nat} (W : Within E N) (S : Still E N k) : ∀ (d u v : Nat), u < N → v < N → lk E E k u v = true → lk E E (k + d) u v = true := by
  have hs : ∀ d, Still E N (k + d) := by
    intro d
    induction d with
    | zero => exact S
    | succ d ih => exact ih.next W
  intro d
  induction d with
  | zero => intro u v _ _ h; exact h
  | succ d ih => intro u v hu hv h; exact hs d u v hu hv (ih u v hu hv h)
/-- the least of each class, at k -/
def reps (E : Exs) (N k : Nat) : List Nat := (List.range N).filter fun p => (List.range p).all fun q => !lk E E k q p
theorem mem_reps {E : Exs} {N k p : Nat} : p ∈ reps E N k ↔ p < N ∧ ∀ q, q < p → lk E E k q p = false := by
  unfold reps
  rw [List.mem_filter, List.mem_range, List.all_eq_true]
  simp only [List.mem_range, Bool.not_eq_true']
theorem rep_of {E : Exs} {N k : Nat} : ∀ p, p < N → ∃ q, q ∈ reps E N k ∧ lk E E k q p = true := by
  intro p
  induction p using Nat.strongRecOn with
  | ind p ih =>
    intro hp
    by_cases h : ∃ q, q < p ∧ lk E E k q p = true
    · obtain ⟨q, hq, e⟩ := h
      obtain ⟨r, hr, er⟩ := ih q hq (by omega)
      exact ⟨r, hr, lk_trans er e⟩
    · refine ⟨p, mem_reps.mpr ⟨hp, fun q hq => ?_⟩, lk_refl E k p⟩
      cases e : lk E E k q p with
      | false => rfl
      | true => exact absurd ⟨q, hq, e⟩ h
theorem reps_inj {E : Exs} {N k p q : Nat} (hp : p ∈ reps E N k) (hq : q ∈ reps E N k) (h : lk E E k p q = true) : p = q := by
  rcases Nat.lt_trichotomy p q with z | z | z
  · have := (mem_reps.mp hq).2 p z
    rw [h] at this; cases this
  · exact z
  · have := (mem_reps.mp hp).2 q z
    rw [lk_symm h] at this; cases this
theorem reps_grow {E : Exs} {N k : Nat} (S : ¬ Still E N k) : (reps E N k).length < (reps E N (k + 1)).length := by
  have sub : ∀ p, p ∈ reps E N k → p ∈ reps E N (k + 1) := fun p hp => by
    obtain ⟨h1, h2⟩ := mem_reps.mp hp
    refine mem_reps.mpr ⟨h1, fun q hq => ?_⟩
    cases e : lk E E (k + 1) q p with
    | false => rfl
    | true => exact absurd (h2 q hq) (by rw [lk_down e]; simp)
  have hx : ∃ x, x ∈ reps E N (k + 1) ∧ ¬ x ∈ reps E N k := by
    apply Classical.byContradiction
    intro hn
    apply S
    intro u v hu hv h
    obtain ⟨u', hu', eu⟩ := rep_of (E := E) (N := N) (k := k + 1) u hu
    obtain ⟨v', hv', ev⟩ := rep_of (E := E) (N := N) (k := k + 1) v hv
    have mu : u' ∈ reps E N k := Classical.byContradiction fun z => hn ⟨u', hu', z⟩
    have mv : v' ∈ reps E N k := Classical.byContradiction fun z => hn ⟨v', hv', z⟩
    have e : u' = v' := reps_inj mu mv (lk_trans (lk_trans (lk_down eu) h) (lk_symm (lk_down ev)))
    subst e
    exact lk_trans (lk_symm eu) ev
  obtain ⟨x, x1, x2⟩ := hx
  unfold reps
  refine filter_lt (fun p hp h => ?_) x (List.mem_range.mpr (mem_reps.mp x1).1) ?_ ?_
  · have := sub p (List.mem_filter.mpr ⟨hp, h⟩)
    exact (List.mem_filter.mp this).2
  · cases e : (List.range x).all fun q => !lk E E k q x with
    | false => rfl
    | true => exact absurd (List.mem_filter.mpr ⟨List.mem_range.mpr (mem_reps.mp x1).1, e⟩) x2
  · exact (List.mem_filter.mp x1).2
theorem still_or {E : Exs} {N : Nat} (hN : 0 < N) : ∀ k, (∃ j, j < k ∧ Still E N j) ∨ k + 1 ≤ (reps E N k).length
  | 0 => by
    refine .inr ?_
    have : 0 ∈ reps E N 0 := mem_reps.mpr ⟨hN, fun q hq => absurd hq (Nat.not_lt_zero _)⟩
    exact List.length_pos_of_mem this
  | k + 1 => by
    rcases still_or hN k with ⟨j, hj, s⟩ | h
    · exact .inl ⟨j, by omega, s⟩
    · by_cases s : Still E N k
      · exact .inl ⟨k, by omega, s⟩
      · have := reps_grow s
        exact .inr (by omega)
/-- within N places all that is ever told apart is told apart in fewer than N steps -/
theorem still_by {E : Exs} {N : Nat} (W : Within E N) (hN : 0 < N) : Still E N (N - 1) := by
  rcases still_or (E := E) hN N with ⟨j, hj, s⟩ | h
  · have : ∀ d, Still E N (j + d) := by
      intro d
      induction d with
      | zero => exact s
      | succ d ih => exact ih.next W
    have := this (N - 1 - j)
    rw [show j + (N - 1 - j) = N - 1 by omega] at this
    exact this
  · have : (reps E N N).length ≤ N := by
      unfold reps
      have := List.length_filter_le (fun p => (List.range p).all fun q => !lk E E N q p) (List.range N)
      rw [List.length_range] at this
      exact this
    omega
theorem lk_bound {E : Exs} {N u v k : Nat} (W : Within E N) (hu : u < N) (hv : v < N) (h : lk E E (N - 1) u v = true) : lk E E k u v = true := by
  by_cases hk : k ≤ N - 1
  · exact lk_anti hk h
  · have := (still_by W (by omega)).ever W (k - (N - 1)) u v hu hv h
    rw [show N - 1 + (k - (N - 1)) = k by omega] at this
    exact this

/-! ### two tables as one: the second's places behind the first's -/
def both (E F : Exs) (n : Nat) : Exs := fun p => if p < n then E p else (F (p - n)).map fun q => (q.1 + n, q.2)
theorem both_fst {E F : Exs} {n u : Nat} (h : u < n) : both E F n u = E u := if_pos h
theorem both_snd {E F : Exs} {n v : Nat} : both E F n (v + n) = (F v).map fun q => (q.1 + n, q.2) := by
  unfold both
  rw [if_neg (by omega), show v + n - n = v by omega]
theorem both_within {E F : Exs} {n m : Nat} (hE : Within E n) (hF : Within F m) : Within (both E F n) (n + m) := by
  intro p hp q hq
  by_cases h : p < n
  · rw [both_fst h] at hq
    have := hE p h q hq
    omega
  · obtain ⟨v, rfl⟩ : ∃ v, p = v + n := ⟨p - n, by omega⟩
    rw [both_snd] at hq
    obtain ⟨r, hr, rfl⟩ := List.mem_map.mp hq
    have := hF v (by omega) r hr
    simp only
    omega
theorem lk_both {E F : Exs} {n m : Nat} (hE : Within E n) (hF : Within F m) : ∀ (k u v : Nat), u < n → v < m → lk (both E F n) (both E F n) k u (v + n) = lk E F k u v
  | 0, u, v, hu, hv => by
    show ((both E F n u).length == (both E F n (v + n)).length) = ((E u).length == (F v).length)
    rw [both_fst hu, both_snd, List.length_map]
  | k + 1, u, v, hu, hv => by
    rw [Bool.eq_iff_iff, lk_succ, lk_succ, both_fst hu, both_snd, List.length_map]
    refine and_congr Iff.rfl ⟨fun h e a b ha hb => ?_, fun h e a b ha hb => ?_⟩
    · have := h e a (b.1 + n, b.2) ha (by rw [List.getElem?_map, hb]; rfl)
      have lt1 := hE u hu a (List.mem_of_getElem? ha)
      have lt2 := hF v hv b (List.mem_of_getElem? hb)
      simp only at this
      rw [lk_both hE hF k a.1 b.1 lt1 lt2] at this
      exact this
    · rw [List.getElem?_map] at hb
      obtain ⟨b', hb', rfl⟩ := Option.map_eq_some_iff.mp hb
      have := h e a b' ha hb'
      have lt1 := hE u hu a (List.mem_of_getElem? ha)
      have lt2 := hF v hv b' (List.mem_of_getElem? hb')
      simp only
      rw [lk_both hE hF k a.1 b'.1 lt1 lt2]
      exact this
/-- point b of the document -/
theorem lk_ever {E F : Exs} {n m u v : Nat} (hE : Within E n) (hF : Within F m) (hu : u < n) (hv : v < m) (h : lk E F (n + m - 1) u v = true) (k : Nat) : lk E F k u v = true := by
  rw [← lk_both hE hF _ u v hu hv] at h ⊢
  exact lk_bound (both_within hE hF) (by omega) (by omega) h

/-! ### the specification's tables -/
theorem table_get (s t : Net) (f : Nat → Nat → Bool) (u v : Nat) (hu : u < s.n) (hv : v < t.n) : ((((List.range s.n).map fun u => (List.range t.n).map fun v => f u v)).getD u []).getD v false = f u v := by
  rw [List.getD_eq_getElem?_getD, List.getD_eq_getElem?_getD, List.getElem?_map, List.getElem?_range hu]
  simp only [Option.map_some, Option.getD_some]
  rw [List.getElem?_map, List.getElem?_range hv]
  rfl
theorem ent_within {n : Nat} {ls : List (Nat × Nat)} (h : ∀ p ∈ ls, p.1 < n ∧ p.2 < n) : Within (ent ls) n := fun u _ p hp => ent_lt n ls h u p hp
theorem like_lk {n m : Nat} {ls ms : List (Nat × Nat)} (hl : ∀ p ∈ ls, p.1 < n ∧ p.2 < n) (hm : ∀ p ∈ ms, p.1 < m ∧ p.2 < m) : ∀ (k u v : Nat), u < n → v < m → Ks536.like ⟨n, ls⟩ ⟨m, ms⟩ k u v = lk (ent ls) (ent ms) k u v
  | 0, u, v, hu, hv => by
    unfold Ks536.like Ks536.table
    rw [table_get ⟨n, ls⟩ ⟨m, ms⟩ (fun u v => degree ⟨n, ls⟩ u == degree ⟨m, ms⟩ v) u v hu hv, degree_ent, degree_ent]
    rfl
  | k + 1, u, v, hu, hv => by
    unfold Ks536.like Ks536.table
    simp only
    rw [table_get ⟨n, ls⟩ ⟨m, ms⟩ _ u v hu hv, degree_ent, degree_ent]
    rw [Bool.eq_iff_iff, lk_succ, Bool.and_eq_true, beq_iff_eq, List.all_eq_true]
    refine and_congr_right fun hlen => ⟨fun h e a b ha hb => ?_, fun h e he => ?_⟩
    · have := h e (List.mem_range.mpr (List.getElem?_eq_some_iff.mp ha).1)
      rw [out_ent, out_ent, ha, hb] at this
      simp only [Bool.and_eq_true, beq_iff_eq] at this
      have e2 := like_lk hl hm k a.1 b.1 (ent_lt n ls hl u a (List.mem_of_getElem? ha)) (ent_lt m ms hm v b (List.mem_of_getElem? hb))
      unfold Ks536.like at e2
      rw [e2] at this
      exact this
    · rw [List.mem_range] at he
      have ha := List.getElem?_eq_getElem he
      have hb := List.getElem?_eq_getElem (show e < (ent ms v).length by omega)
      have := h e _ _ ha hb
      have e2 := like_lk hl hm k _ _ (ent_lt n ls hl u _ (List.mem_of_getElem? ha)) (ent_lt m ms hm v _ (List.mem_of_getElem? hb))
      unfold Ks536.like at e2
      rw [out_ent, out_ent, ha, hb]
      simp only [Bool.and_eq_true, beq_iff_eq]
      rw [e2]
      exact this
/-- told apart: in k steps, not in fewer -/
def Told (E F : Exs) (u v k : Nat) : Prop := lk E F k u v = false ∧ ∀ j, j < k → lk E F j u v = true
theorem told_uniq {E F : Exs} {u v j k : Nat} (h : Told E F u v j) (g : Told E F u v k) : j = k := by
  rcases Nat.lt_trichotomy j k with z | z | z
  · have := g.2 j z
    rw [h.1] at this; cases this
  · exact z
  · have := h.2 k z
    rw [g.1] at this; cases this
theorem apart_some {n m : Nat} {ls ms : List (Nat × Nat)} (hl : ∀ p ∈ ls, p.1 < n ∧ p.2 < n) (hm : ∀ p ∈ ms, p.1 < m ∧ p.2 < m) {u v k : Nat} (hu : u < n) (hv : v < m) (h : Told (ent ls) (ent ms) u v k) : Ks536.apart ⟨n, ls⟩ ⟨m, ms⟩ u v = some k := by
  have hk : k < n + m := by
    apply Classical.byContradiction
    intro z
    have := lk_ever (ent_within hl) (ent_within hm) hu hv (h.2 (n + m - 1) (by omega)) k
    rw [h.1] at this; cases this
  unfold Ks536.apart
  rw [List.find?_range_eq_some]
  refine ⟨?_, List.mem_range.mpr hk, fun j hj => ?_⟩
  · rw [like_lk hl hm k u v hu hv, h.1]; rfl
  · rw [like_lk hl hm j u v hu hv, h.2 j hj]; rfl
theorem apart_none {n m : Nat} {ls ms : List (Nat × Nat)} (hl : ∀ p ∈ ls, p.1 < n ∧ p.2 < n) (hm : ∀ p ∈ ms, p.1 < m ∧ p.2 < m) {u v : Nat} (hu : u < n) (hv : v < m) (h : ∀ k, lk (ent ls) (ent ms) k u v = true) : Ks536.apart ⟨n, ls⟩ ⟨m, ms⟩ u v = none := by
  unfold Ks536.apart
  rw [List.find?_eq_none]
  intro k _
  rw [like_lk hl hm k u v hu hv, h k]; simp

/-! ### classes -/
/-- alike for ever -/
def Alike (E F : Exs) (u v : Nat) : Prop := ∀ k, lk E F k u v = true
theorem alike_iff {E : Exs} {N u v k : Nat} (W : Within E N) (hu : u < N) (hv : v < N) (hk : N - 1 ≤ k) : lk E E k u v = true ↔ Alike E E u v :=
  ⟨fun h j => lk_bound W hu hv (lk_anti hk h), fun h => h k⟩
/-- the least place that's alike -/
def cls (E : Exs) (n u : Nat) : Nat := ((List.range n).find? fun v => lk E E (n + n - 1) v u).getD u
theorem cls_is {E : Exs} {n u c : Nat} (W : Within E n) (hu : u < n) (hc : c < n) (h : Alike E E c u) (least : ∀ v, v < c → ¬ Alike E E v u) : cls E n u = c := by
  unfold cls
  have : (List.range n).find? (fun v => lk E E (n + n - 1) v u) = some c := by
    rw [List.find?_range_eq_some]
    refine ⟨h _, List.mem_range.mpr hc, fun j hj => ?_⟩
    cases e : lk E E (n + n - 1) j u with
    | false => rfl
    | true => exact absurd ((alike_iff W (by omega) hu (by omega)).mp e) (least j hj)
  rw [this]; rfl
theorem cls_spec {E : Exs} {n u : Nat} (W : Within E n) (hu : u < n) : cls E n u ≤ u ∧ Alike E E (cls E n u) u ∧ ∀ v, v < cls E n u → ¬ Alike E E v u := by
  have : ∀ b, b ≤ u → Alike E E b u → ∃ c, c ≤ b ∧ Alike E E c u ∧ ∀ v, v < c → ¬ Alike E E v u := by
    intro b
    induction b using Nat.strongRecOn with
    | ind b ih =>
      intro hb hA
      by_cases h : ∃ v, v < b ∧ Alike E E v u
      · obtain ⟨v, hv, hV⟩ := h
        obtain ⟨c, h1, h2⟩ := ih v hv (by omega) hV
        exact ⟨c, by omega, h2⟩
      · exact ⟨b, Nat.le_refl _, hA, fun v hv z => h ⟨v, hv, z⟩⟩
  obtain ⟨c, h1, h2, h3⟩ := this u (Nat.le_refl _) (fun k => lk_refl E k u)
  rw [cls_is W hu (by omega) h2 h3]
  exact ⟨h1, h2, h3⟩
theorem classes_cls {n : Nat} {ls : List (Nat × Nat)} (hl : ∀ p ∈ ls, p.1 < n ∧ p.2 < n) : Ks536.classes ⟨n, ls⟩ = (List.range n).map (cls (ent ls) n) := by
  unfold Ks536.classes
  simp only
  apply List.map_congr_left
  intro u hu
  rw [List.mem_range] at hu
  unfold cls
  congr 1
  have : ∀ l : List Nat, (∀ v ∈ l, v < n) → l.find? (fun v => ((Ks536.table ⟨n, ls⟩ ⟨n, ls⟩ (n + n - 1)).getD v []).getD u false) = l.find? (fun v => lk (ent ls) (ent ls) (n + n - 1) v u) := by
    intro l
    induction l with
    | nil => intro _; rfl
    | cons a l ih =>
      intro h
      have e := like_lk hl hl (n + n - 1) a u (h a List.mem_cons_self) hu
      unfold Ks536.like at e
      rw [List.find?_cons, List.find?_cons, e, ih fun v hv => h v (List.mem_cons_of_mem _ hv)]
  exact this _ fun v hv => List.mem_range.mp hv
end Sw
/-! The least place that looks alike for k steps, place by place; one step finer; where nothing changes any more. -/
namespace Sw
/-- the least place that isn't told apart in k steps -/
def grp (E : Exs) (n k u : Nat) : Nat := ((List.range n).find? fun v => lk E E k v u).getD u
theorem grp_spec {E : Exs} {n k u : Nat} (hu : u < n) : grp E n k u < n ∧ lk E E k (grp E n k u) u = true ∧ ∀ v, v < grp E n k u → lk E E k v u = false := by
  unfold grp
  cases h : (List.range n).find? fun v => lk E E k v u with
  | none =>
    rw [List.find?_eq_none] at h
    exact absurd (lk_refl E k u) (h u (List.mem_range.mpr hu))
  | some c =>
    rw [List.find?_range_eq_some] at h
    obtain ⟨h1, h2, h3⟩ := h
    refine ⟨List.mem_range.mp h2, h1, fun v hv => ?_⟩
    have := h3 v hv
    simpa using this
theorem grp_is {E : Exs} {n k u c : Nat} (hu : u < n) (hc : lk E E k c u = true) (least : ∀ v, v < c → lk E E k v u = false) : grp E n k u = c := by
  obtain ⟨h1, h2, h3⟩ := grp_spec (E := E) (k := k) hu
  rcases Nat.lt_trichotomy (grp E n k u) c with z | z | z
  · have := least _ z
    rw [h2] at this; cases this
  · exact z
  · have := h3 _ z
    rw [hc] at this; cases this
theorem grp_eq {E : Exs} {n k u v : Nat} (hu : u < n) (hv : v < n) : grp E n k u = grp E n k v ↔ lk E E k u v = true := by
  obtain ⟨a1, a2, a3⟩ := grp_spec (E := E) (k := k) hu
  obtain ⟨b1, b2, b3⟩ := grp_spec (E := E) (k := k) hv
  constructor
  · intro h
    rw [h] at a2
    exact lk_trans (lk_symm a2) b2
  · intro h
    refine grp_is hu (lk_trans b2 (lk_symm h)) fun w hw => ?_
    cases e : lk E E k w u with
    | false => rfl
    | true => exact absurd (b3 w hw) (by rw [lk_trans e h]; simp)
/-- all groups -/
def grps (E : Exs) (n k : Nat) : List Nat := (List.range n).map (grp E n k)
theorem grps_get {E : Exs} {n k u : Nat} (hu : u < n) : (grps E n k)[u]? = some (grp E n k u) := by
  unfold grps
  rw [List.getElem?_map, List.getElem?_range hu]; rfl
theorem grps_len (E : Exs) (n k : Nat) : (grps E n k).length = n := by
  unfold grps
  rw [List.length_map, List.length_range]
/-- what one sees of a place: by which exit one comes in, and the group there -/
def sg (g : Nat → Nat) (es : List (Nat × Nat)) : List (Nat × Nat) := es.map fun p => (p.2, g p.1)
theorem sg_eq {E : Exs} {n k u v : Nat} (W : Within E n) (hu : u < n) (hv : v < n) : sg (grp E n k) (E u) = sg (grp E n k) (E v) ↔ lk E E (k + 1) u v = true := by
  rw [lk_succ]
  constructor
  · intro h
    have hl : (E u).length = (E v).length := by
      have := congrArg List.length h
      unfold sg at this
      rw [List.length_map, List.length_map] at this
      exact this
    refine ⟨hl, fun e a b ha hb => ?_⟩
    have := congrArg (fun z => z[e]?) h
    unfold sg at this
    simp only [List.getElem?_map, ha, hb, Option.map_some, Option.some.injEq, Prod.mk.injEq] at this
    exact ⟨this.1, (grp_eq (W u hu a (List.mem_of_getElem? ha)) (W v hv b (List.mem_of_getElem? hb))).mp this.2⟩
  · rintro ⟨hl, h⟩
    unfold sg
    apply List.ext_getElem?
    intro e
    rw [List.getElem?_map, List.getElem?_map]
    by_cases he : e < (E u).length
    · have ha := List.getElem?_eq_getElem he
      have hb := List.getElem?_eq_getElem (show e < (E v).length by omega)
      rw [ha, hb]
      obtain ⟨h1, h2⟩ := h e _ _ ha hb
      have := (grp_eq (k := k) (W u hu _ (List.mem_of_getElem? ha)) (W v hv _ (List.mem_of_getElem? hb))).mpr h2
      simp only [Option.map_some, h1, this]
    · rw [List.getElem?_eq_none (by omega), List.getElem?_eq_none (by omega)]
/-- of each the place of the first that is the same -/
def firsts {α : Type} [DecidableEq α] (l : List α) : List Nat := l.map fun x => l.findIdx fun y => decide (y = x)
theorem firsts_range {α : Type} [DecidableEq α] {E : Exs} {n k : Nat} (f : Nat → α) (hf : ∀ u v, u < n → v < n → (f u = f v ↔ lk E E k u v = true)) : firsts ((List.range n).map f) = grps E n k := by
  unfold firsts grps
  rw [List.map_map]
  apply List.map_congr_left
  intro u hu
  rw [List.mem_range] at hu
  show ((List.range n).map f).findIdx (fun y => decide (y = f u)) = grp E n k u
  obtain ⟨h1, h2, h3⟩ := grp_spec (E := E) (k := k) hu
  rw [List.findIdx_eq (by rw [List.length_map, List.length_range]; exact h1)]
  refine ⟨?_, fun j hj => ?_⟩
  · rw [List.getElem_map, List.getElem_range, decide_eq_true_eq]
    exact (hf _ _ h1 hu).mpr h2
  · rw [List.getElem_map, List.getElem_range, decide_eq_false_iff_not]
    intro z
    have := (hf _ _ (by omega) hu).mp z
    rw [h3 j hj] at this; cases this
theorem firsts_zero (E : Exs) (n : Nat) : firsts ((List.range n).map fun u => (E u).length) = grps E n 0 := firsts_range _ fun u v _ _ => lk_zero.symm
theorem firsts_succ {E : Exs} {n : Nat} (W : Within E n) (k : Nat) : firsts ((List.range n).map fun u => sg (grp E n k) (E u)) = grps E n (k + 1) := firsts_range _ fun u v hu hv => sg_eq W hu hv
/-- the next groups are the same just where nobody more is told apart -/
theorem grps_still {E : Exs} {n k : Nat} : grps E n (k + 1) = grps E n k ↔ Still E n k := by
  constructor
  · intro h u v hu hv hl
    have eq : ∀ w, w < n → grp E n (k + 1) w = grp E n k w := fun w hw => by
      have := congrArg (fun z => z[w]?) h
      simp only [grps_get hw, Option.some.injEq] at this
      exact this
    rw [← grp_eq hu hv] at hl ⊢
    rw [eq u hu, eq v hv, hl]
  · intro S
    unfold grps
    apply List.map_congr_left
    intro u hu
    rw [List.mem_range] at hu
    obtain ⟨h1, h2, h3⟩ := grp_spec (E := E) (k := k) hu
    refine grp_is hu (S _ _ h1 hu h2) fun v hv => ?_
    cases e : lk E E (k + 1) v u with
    | false => rfl
    | true => exact absurd (h3 v hv) (by rw [lk_down e]; simp)
/-- as long as somebody more is told apart at each step, there are fewer steps than places -/
theorem moving_lt {E : Exs} {n k : Nat} (hn : 0 < n) (h : ∀ j, j < k → ¬ Still E n j) : k < n := by
  rcases still_or (E := E) hn k with ⟨j, hj, s⟩ | g
  · exact absurd s (h j hj)
  · have : (reps E n k).length ≤ n := by
      unfold reps
      have := List.length_filter_le (fun p => (List.range p).all fun q => !lk E E k q p) (List.range n)
      rw [List.length_range] at this
      exact this
    omega
/-- where nobody more is told apart the groups are the classes -/
theorem grps_cls {E : Exs} {n k : Nat} (W : Within E n) (S : Still E n k) : grps E n k = (List.range n).map (cls E n) := by
  unfold grps
  apply List.map_congr_left
  intro u hu
  rw [List.mem_range] at hu
  obtain ⟨h1, h2, h3⟩ := grp_spec (E := E) (k := k) hu
  refine (cls_is W hu h1 (fun j => ?_) fun v hv z => ?_).symm
  · by_cases hj : j ≤ k
    · exact lk_anti hj h2
    · have := S.ever W (j - k) _ u h1 hu h2
      rw [show k + (j - k) = j by omega] at this
      exact this
  · have := z k
    rw [h3 v hv] at this; cases this
/-- in how many steps, or -6 -/
def apartOf (n m : Nat) (ls ms : List (Nat × Nat)) (u v : Nat) : Int := match Ks536.apart ⟨n, ls⟩ ⟨m, ms⟩ u v with
  | none => -6
  | some k => (k : Int)
/-- r tells in how many steps u and v are told apart, or that they're alike -/
def ApartIs (E F : Exs) (u v : Nat) (r : Int) : Prop := (∃ k : Nat, r = (k : Int) ∧ Told E F u v k) ∨ (r = -6 ∧ Alike E F u v)
theorem apartOf_is {n m : Nat} {ls ms : List (Nat × Nat)} (hl : ∀ p ∈ ls, p.1 < n ∧ p.2 < n) (hm : ∀ p ∈ ms, p.1 < m ∧ p.2 < m) {u v : Nat} {r : Int} (hu : u < n) (hv : v < m) (h : ApartIs (ent ls) (ent ms) u v r) : apartOf n m ls ms u v = r := by
  unfold apartOf
  rcases h with ⟨k, rfl, h⟩ | ⟨rfl, h⟩
  · rw [apart_some hl hm hu hv h]
  · rw [apart_none hl hm hu hv h]
theorem still_alike {E : Exs} {n k u v : Nat} (W : Within E n) (S : Still E n k) (hu : u < n) (hv : v < n) (h : lk E E k u v = true) : Alike E E u v := fun j => by
  by_cases hj : j ≤ k
  · exact lk_anti hj h
  · have := S.ever W (j - k) u v hu hv h
    rw [show k + (j - k) = j by omega] at this
    exact this
theorem apart_both {E F : Exs} {n m u v : Nat} {r : Int} (hE : Within E n) (hF : Within F m) (hu : u < n) (hv : v < m) (h : ApartIs (both E F n) (both E F n) u (v + n) r) : ApartIs E F u v r := by
  rcases h with ⟨k, e, h1, h2⟩ | ⟨e, h⟩
  · refine .inl ⟨k, e, ?_, fun j hj => ?_⟩
    · rw [← lk_both hE hF k u v hu hv]; exact h1
    · rw [← lk_both hE hF j u v hu hv]; exact h2 j hj
  · refine .inr ⟨e, fun j => ?_⟩
    rw [← lk_both hE hF j u v hu hv]; exact h j
end Sw
/-! What stands in the heap: numbers, lists of pairs, the table of exits. -/
namespace Sw
open PySem PySem.Spec PyProof.Rows L2

theorem same_upd {H : Hp} {p : Addr} {o : HO} (h : H p = none) : Same H (upd H p o) := fun b x e => by
  rw [upd_ne (ne_of_none e h)]
  exact e
/-- a new object's own list grows: all that stood ahead of it stays -/
theorem same_put {H H' : Hp} {p : Addr} {o : HO} (s : Same H H') (h : H p = none) : Same H (upd H' p o) := fun b x e => by
  rw [upd_ne (ne_of_none e h)]
  exact s b x e
/-- a number -/
abbrev vi (x : Nat) : V := .int (x : Int)
theorem vi_get {l : List Nat} {i : Nat} {y : V} (h : (l.map vi)[i]? = some y) : ∃ x, l[i]? = some x ∧ y = vi x := by
  rw [List.getElem?_map] at h
  obtain ⟨x, hx, e⟩ := Option.map_eq_some_iff.mp h
  exact ⟨x, hx, e.symm⟩
theorem map_get {α β : Type} {f : α → β} {l : List α} {i : Nat} {x : α} (h : l[i]? = some x) : (l.map f)[i]? = some (f x) := by
  rw [List.getElem?_map, h]; rfl
theorem ref_get {l : List Addr} {i : Nat} {y : V} (h : (l.map V.ref)[i]? = some y) : ∃ x, l[i]? = some x ∧ y = .ref x := by
  rw [List.getElem?_map] at h
  obtain ⟨x, hx, e⟩ := Option.map_eq_some_iff.mp h
  exact ⟨x, hx, e.symm⟩
theorem get_of_len {α β : Type} {l : List α} {m : List β} {i : Nat} {x : α} (e : l.length = m.length) (h : l[i]? = some x) : ∃ y, m[i]? = some y := by
  have := (List.getElem?_eq_some_iff.mp h).1
  exact ⟨_, List.getElem?_eq_getElem (by omega)⟩
theorem take_snoc {α : Type} {l : List α} {i : Nat} {x : α} (h : l[i]? = some x) : l.take (i + 1) = l.take i ++ [x] := by
  rw [List.take_succ, h]; rfl

/-- the tuples at ts hold the pairs ls -/
def Tups (H : Hp) (ts : List Addr) (ls : List (Nat × Nat)) : Prop := ts.length = ls.length ∧ ∀ (i : Nat) (t : Addr) (p : Nat × Nat), ts[i]? = some t → ls[i]? = some p → H t = some (.tup [vi p.1, vi p.2])
theorem Tups.nil {H : Hp} : Tups H [] [] := ⟨rfl, fun i t p h => by simp at h⟩
theorem Tups.mono {H H' : Hp} {ts : List Addr} {ls : List (Nat × Nat)} (T : Tups H ts ls) (k : ∀ t x y, H t = some (.tup [x, y]) → H' t = some (.tup [x, y])) : Tups H' ts ls :=
  ⟨T.1, fun i t p h1 h2 => k _ _ _ (T.2 i t p h1 h2)⟩
theorem Tups.same {H H' : Hp} {ts : List Addr} {ls : List (Nat × Nat)} (T : Tups H ts ls) (s : Same H H') : Tups H' ts ls := T.mono fun t _ _ h => s t _ h
theorem Tups.snoc {H : Hp} {ts : List Addr} {ls : List (Nat × Nat)} {t : Addr} {p : Nat × Nat} (T : Tups H ts ls) (h : H t = some (.tup [vi p.1, vi p.2])) : Tups H (ts ++ [t]) (ls ++ [p]) := by
  refine ⟨by simp [T.1], fun i t' p' h1 h2 => ?_⟩
  by_cases hi : i < ts.length
  · rw [List.getElem?_append_left hi] at h1
    rw [List.getElem?_append_left (by rw [← T.1]; exact hi)] at h2
    exact T.2 i t' p' h1 h2
  · rw [List.getElem?_append_right (by omega)] at h1
    rw [List.getElem?_append_right (by rw [← T.1]; omega)] at h2
    have e : i - ts.length = 0 := by
      have := (List.getElem?_eq_some_iff.mp h1).1
      simp at this
      omega
    rw [e] at h1
    rw [← T.1, e] at h2
    cases h1
    cases h2
    exact h
/-- a list of pairs stands at a -/
def PairL (H : Hp) (a : Addr) (ls : List (Nat × Nat)) : Prop := ∃ ts : List Addr, H a = some (.lst (ts.map V.ref)) ∧ Tups H ts ls
theorem PairL.same {H H' : Hp} {a : Addr} {ls : List (Nat × Nat)} (h : PairL H a ls) (s : Same H H') : PairL H' a ls := by
  obtain ⟨ts, h1, h2⟩ := h
  exact ⟨ts, s _ _ h1, h2.same s⟩
/-- of each place its exits -/
structure TabAt (H : Hp) (a : Addr) (rs : List Addr) (T : List (List (Nat × Nat))) : Prop where
  lst : H a = some (.lst (rs.map V.ref))
  nd : rs.Nodup
  out : ¬ a ∈ rs
  len : rs.length = T.length
  row : ∀ (u : Nat) (r : Addr) (es : List (Nat × Nat)), rs[u]? = some r → T[u]? = some es → PairL H r es
theorem TabAt.same {H H' : Hp} {a : Addr} {rs : List Addr} {T : List (List (Nat × Nat))} (h : TabAt H a rs T) (s : Same H H') : TabAt H' a rs T :=
  ⟨s _ _ h.lst, h.nd, h.out, h.len, fun u r es h1 h2 => (h.row u r es h1 h2).same s⟩
theorem TabAt.get {H : Hp} {a : Addr} {rs : List Addr} {T : List (List (Nat × Nat))} (h : TabAt H a rs T) {u : Nat} {es : List (Nat × Nat)} (hu : T[u]? = some es) : ∃ r ts, rs[u]? = some r ∧ H r = some (.lst (ts.map V.ref)) ∧ Tups H ts es := by
  obtain ⟨r, hr⟩ := get_of_len h.len.symm hu
  obtain ⟨ts, h1, h2⟩ := h.row u r es hr hu
  exact ⟨r, ts, hr, h1, h2⟩
/-- one row grows by one pair -/
theorem TabAt.grow {H : Hp} {a t r : Addr} {rs ts : List Addr} {T : List (List (Nat × Nat))} {u : Nat} {es : List (Nat × Nat)} {p : Nat × Nat} (h : TabAt H a rs T) (hu : T[u]? = some es) (hr : rs[u]? = some r)
    (h1 : H r = some (.lst (ts.map V.ref))) (h2 : Tups H ts es) (ht : H t = some (.tup [vi p.1, vi p.2])) : TabAt (upd H r (.lst ((ts ++ [t]).map V.ref))) a rs (T.set u (es ++ [p])) := by
  have har : a ≠ r := fun e => h.out (e ▸ List.mem_of_getElem? hr)
  have kt : ∀ t x y, H t = some (.tup [x, y]) → (upd H r (.lst ((ts ++ [t]).map V.ref))) t = some (.tup [x, y]) := fun t x y e => by
    rw [upd_ne (ne_of e h1 (by intro z; cases z))]; exact e
  have kt' : ∀ q x y, H q = some (.tup [x, y]) → (upd H r (.lst ((ts ++ [t]).map V.ref))) q = some (.tup [x, y]) := fun q x y e => by
    rw [upd_ne (ne_of e h1 (by intro z; cases z))]; exact e
  refine ⟨by rw [upd_ne har]; exact h.lst, h.nd, h.out, by rw [List.length_set]; exact h.len, fun u' r' es' g1 g2 => ?_⟩
  by_cases e : u' = u
  · subst e
    rw [hr] at g1
    cases g1
    rw [List.getElem?_set_self (List.getElem?_eq_some_iff.mp hu).1] at g2
    cases g2
    exact ⟨ts ++ [t], upd_same, (h2.snoc ht).mono kt'⟩
  · rw [List.getElem?_set_ne (fun z => e z.symm)] at g2
    have hrr : r' ≠ r := fun z => e (nd_ix h.nd g1 (by rw [z]; exact hr))
    obtain ⟨ts', f1, f2⟩ := h.row u' r' es' g1 g2
    exact ⟨ts', by rw [upd_ne hrr]; exact f1, f2.mono kt'⟩
/-- rows of pairs stand at q -/
structure RowsAt (H : Hp) (q : Addr) (qs : List Addr) (R : List (List (Nat × Nat))) : Prop where
  lst : H q = some (.lst (qs.map V.ref))
  out : ¬ q ∈ qs
  len : qs.length = R.length
  row : ∀ (i : Nat) (r : Addr) (es : List (Nat × Nat)), qs[i]? = some r → R[i]? = some es → PairL H r es
theorem RowsAt.same {H H' : Hp} {q : Addr} {qs : List Addr} {R : List (List (Nat × Nat))} (h : RowsAt H q qs R) (s : Same H H') : RowsAt H' q qs R :=
  ⟨s _ _ h.lst, h.out, h.len, fun i r es h1 h2 => (h.row i r es h1 h2).same s⟩
theorem RowsAt.snoc {H : Hp} {q D : Addr} {qs : List Addr} {R : List (List (Nat × Nat))} {es : List (Nat × Nat)} (h : RowsAt H q qs R) (hq : q ≠ D) (hD : PairL H D es) : RowsAt (upd H q (.lst ((qs ++ [D]).map V.ref))) q (qs ++ [D]) (R ++ [es]) := by
  have kp : ∀ (r : Addr) (es : List (Nat × Nat)), r ≠ q → PairL H r es → PairL (upd H q (.lst ((qs ++ [D]).map V.ref))) r es := fun r es hr ⟨ts, h1, h2⟩ =>
    ⟨ts, by rw [upd_ne hr]; exact h1, h2.mono fun t x y e => by rw [upd_ne (ne_of e h.lst (by intro z; cases z))]; exact e⟩
  refine ⟨upd_same, fun z => ?_, by rw [List.length_append, List.length_append, h.len]; rfl, fun i r es' h1 h2 => ?_⟩
  · rcases List.mem_append.mp z with z | z
    · exact h.out z
    · exact hq (List.mem_singleton.mp z)
  · by_cases hi : i < qs.length
    · rw [List.getElem?_append_left hi] at h1
      rw [List.getElem?_append_left (by rw [← h.len]; exact hi)] at h2
      exact kp r es' (fun z => h.out (z ▸ List.mem_of_getElem? h1)) (h.row i r es' h1 h2)
    · rw [List.getElem?_append_right (by omega)] at h1
      rw [List.getElem?_append_right (by rw [← h.len]; omega)] at h2
      have e : i - qs.length = 0 := by
        have := (List.getElem?_eq_some_iff.mp h1).1
        simp at this
        omega
      rw [e] at h1
      rw [← h.len, e] at h2
      cases h1
      cases h2
      exact kp D es hq.symm hD
theorem TabAt.rows {H : Hp} {a : Addr} {rs : List Addr} {T : List (List (Nat × Nat))} (h : TabAt H a rs T) : RowsAt H a rs T := ⟨h.lst, h.out, h.len, h.row⟩
theorem RowsAt.get {H : Hp} {a : Addr} {rs : List Addr} {T : List (List (Nat × Nat))} (h : RowsAt H a rs T) {u : Nat} {es : List (Nat × Nat)} (hu : T[u]? = some es) : ∃ r ts, rs[u]? = some r ∧ H r = some (.lst (ts.map V.ref)) ∧ Tups H ts es := by
  obtain ⟨r, hr⟩ := get_of_len h.len.symm hu
  obtain ⟨ts, h1, h2⟩ := h.row u r es hr hu
  exact ⟨r, ts, hr, h1, h2⟩
/-- the same rows in a new list -/
theorem RowsAt.copy {H : Hp} {a q : Addr} {rs : List Addr} {T : List (List (Nat × Nat))} (h : RowsAt H a rs T) (hq : H q = none) : RowsAt (upd H q (.lst (rs.map V.ref))) q rs T := by
  refine ⟨upd_same, fun m => ?_, h.len, fun i r es h1 h2 => (h.row i r es h1 h2).same (same_upd hq)⟩
  obtain ⟨i, hi, e⟩ := List.mem_iff_getElem.mp m
  have h1 := List.getElem?_eq_getElem hi
  obtain ⟨es, he⟩ := get_of_len h.len h1
  obtain ⟨ts, g1, _⟩ := h.row i _ es h1 he
  rw [e, hq] at g1
  cases g1
/-- a range of even steps -/
theorem rgc2 : ∀ n : Nat, n ≤ 24 → RgC 0 (n : Int) 2 ((n + 1) / 2) := by
  have h : ∀ n : Fin 25, Builtin.Range.small 0 ((n.val : Nat) : Int) 2 = true ∧ Builtin.Range.rangeSize 0 ((n.val : Nat) : Int) 2 = (((n.val + 1) / 2 : Nat) : Int) := by decide +kernel
  intro n hn
  obtain ⟨h1, h2⟩ := h ⟨n, by omega⟩
  exact ⟨by decide, by decide, h1, h2⟩
/-- a comprehension over a range with a step: Inv by the turn, D the list that is made -/
theorem lc_stepped {lo c : Int} {n : Nat} {tgt : TG} {tst : TT} {elt : TE} {vs : List Nat} {sl : L2.St} {Hs : Hp} {D : Addr} {Done : Hp → Prop} (Iv : Nat → Hp → Prop) (start : Iv 0 (upd Hs D (.lst [])))
    (turn : ∀ k Hk, k < n → Iv k Hk → tgt (.int (lo + (k : Nat) * c)) (wipe sl vs) Hk fun sl2 Hk2 => wipe sl2 vs = wipe sl vs ∧ tst sl2 Hk2 fun yes Hk3 =>
      if yes = true then elt sl2 Hk3 fun made Hk4 => ∃ acc, Hk4 D = some (.lst acc) ∧ acc.length < sizeLine ∧ Iv (k + 1) (upd Hk4 D (.lst (acc ++ [made]))) else Iv (k + 1) Hk3) (last : ∀ He, Iv n He → Done He) :
    ∃ W : Nat → Nat → Hp → Prop, (∃ m, W 0 m (upd Hs D (.lst []))) ∧ ∀ k m Hk, W k m Hk →
      ((Itc lo c n).stop k Hk ∧ Done Hk) ∨ ((Itc lo c n).go k Hk ∧ ∃ Nx : Hp → Prop, (∀ Hn, Nx Hn → ∃ m', m' < m ∧ W (k + 1) m' Hn) ∧ ∀ x Hx, (Itc lo c n).yld k Hk x Hx → tgt x (wipe sl vs) Hx fun sl2 Hk2 => wipe sl2 vs = wipe sl vs ∧ tst sl2 Hk2 fun yes Hk3 =>
        if yes = true then elt sl2 Hk3 fun made Hk4 => ∃ acc, Hk4 D = some (.lst acc) ∧ acc.length < sizeLine ∧ Nx (upd Hk4 D (.lst (acc ++ [made]))) else Nx Hk3) := by
  refine ⟨fun k m Hk => m + k = n ∧ Iv k Hk, ⟨n, rfl, start⟩, fun k m Hk h => ?_⟩
  obtain ⟨em, iv⟩ := h
  cases m with
  | zero =>
    have ek : k = n := by omega
    exact .inl ⟨Nat.le_of_eq ek.symm, last Hk (ek ▸ iv)⟩
  | succ m =>
    refine .inr ⟨show k < n by omega, Iv (k + 1), fun Hn g => ⟨m, Nat.lt_succ_self m, by omega, g⟩, fun x Hx y => ?_⟩
    rw [y.1, y.2]
    exact turn k Hk (by omega) iv
end Sw
/-! Numbers, pairs and lists of these as data: when two are the same; what stands in the heap stays it. -/
namespace Sw
open PySem PySem.Spec PyProof.Rows L2
mutual
theorem dp_same {K : PySem.W.Frag} {H H' : Hp} (s : Same H H') : ∀ (d : PyData) (v : V), Dp K H v d → Dp K H' v d
  | .none, _, h => by cases h; exact .non
  | .bool b, _, h => by cases h; exact .bl b
  | .int i, _, h => by cases h; exact .int i
  | .str x, _, h => by cases h; exact .str x
  | .list ds, _, h => by
    cases h with
    | lst h1 h2 => exact .lst (s.seq h1) (dp_same_all s ds _ h2)
  | .tuple ds, _, h => by
    cases h with
    | tup h1 h2 =>
      refine .tup ?_ (dp_same_all s ds _ h2)
      rcases h1 with (h | ⟨o, h⟩) | h
      · exact .inl (.inl (s _ _ h))
      · exact .inl (.inr ⟨o, s _ _ h⟩)
      · exact .inr h
  | .dict _, _, h => by cases h
theorem dp_same_all {K : PySem.W.Frag} {H H' : Hp} (s : Same H H') : ∀ (ds : List PyData) (vs : List V), DpAll K H vs ds → DpAll K H' vs ds
  | [], _, h => by cases h; exact .nil
  | d :: ds, _, h => by
    cases h with
    | cons h1 h2 => exact .cons (dp_same s d _ h1) (dp_same_all s ds _ h2)
end
theorem dp_len {K : PySem.W.Frag} {H : Hp} : ∀ {vs : List V} {ds : List PyData}, DpAll K H vs ds → vs.length = ds.length
  | [], [], _ => rfl
  | _ :: vs, _ :: ds, h => by
    cases h with
    | cons _ h2 => rw [List.length_cons, List.length_cons, dp_len h2]
  | [], _ :: _, h => by cases h
  | _ :: _, [], h => by cases h
theorem dp_get {K : PySem.W.Frag} {H : Hp} : ∀ {vs : List V} {ds : List PyData} {i : Nat} {v : V} {d : PyData}, DpAll K H vs ds → vs[i]? = some v → ds[i]? = some d → Dp K H v d
  | _ :: vs, _ :: ds, 0, v, d, h, hv, hd => by
    cases h with
    | cons h1 _ =>
      cases hv
      cases hd
      exact h1
  | _ :: vs, _ :: ds, i + 1, v, d, h, hv, hd => by
    cases h with
    | cons _ h2 => exact dp_get (i := i) h2 hv hd
  | [], _, _, _, _, _, hv, _ => by simp at hv
  | _ :: _, [], _, _, _, h, _, _ => by cases h
theorem dp_of {K : PySem.W.Frag} {H : Hp} : ∀ {vs : List V} {ds : List PyData}, vs.length = ds.length → (∀ (i : Nat) (v : V) (d : PyData), vs[i]? = some v → ds[i]? = some d → Dp K H v d) → DpAll K H vs ds
  | [], [], _, _ => .nil
  | v :: vs, d :: ds, e, h => .cons (h 0 v d rfl rfl) (dp_of (by simpa using e) fun i v d h1 h2 => h (i + 1) v d h1 h2)
  | [], _ :: _, e, _ => by simp at e
  | _ :: _, [], e, _ => by simp at e
/-- values as data, told apart as they are -/
structure Dat {α : Type} [DecidableEq α] (f : α → PyData) (d : Nat) : Prop where
  eqv : ∀ x y, PyData.eqv (f x) (f y) = decide (x = y)
  lay : ∀ x, PyData.canLay0 (f x) = true
  dep : ∀ x, PyData.depth (f x) ≤ d
theorem Dat.eqvAll {α : Type} [DecidableEq α] {f : α → PyData} {d : Nat} (D : Dat f d) : ∀ xs ys : List α, PyData.eqvAll (xs.map f) (ys.map f) = decide (xs = ys)
  | [], [] => by simp [PyData.eqvAll]
  | [], _ :: _ => by simp [PyData.eqvAll]
  | _ :: _, [] => by simp [PyData.eqvAll]
  | x :: xs, y :: ys => by
    simp only [List.map_cons, PyData.eqvAll]
    rw [D.eqv, Dat.eqvAll D xs ys, ← Bool.decide_and]
    exact decide_eq_decide.mpr (by rw [List.cons.injEq])
theorem Dat.layAll {α : Type} [DecidableEq α] {f : α → PyData} {d : Nat} (D : Dat f d) : ∀ xs : List α, PyData.canLayAll0 (xs.map f) = true
  | [] => by simp [PyData.canLayAll0]
  | x :: xs => by
    simp only [List.map_cons, PyData.canLayAll0]
    rw [D.lay, Dat.layAll D xs]; rfl
theorem Dat.depAll {α : Type} [DecidableEq α] {f : α → PyData} {d : Nat} (D : Dat f d) : ∀ xs : List α, PyData.depthAll (xs.map f) ≤ d
  | [] => by simp [PyData.depthAll]
  | x :: xs => by
    simp only [List.map_cons, PyData.depthAll]
    have := D.dep x
    have := Dat.depAll D xs
    omega
theorem Dat.list {α : Type} [DecidableEq α] {f : α → PyData} {d : Nat} (D : Dat f d) : Dat (fun l : List α => PyData.list (l.map f)) (d + 1) where
  eqv := fun x y => by
    show PyData.eqv (.list (x.map f)) (.list (y.map f)) = _
    simp only [PyData.eqv]
    exact D.eqvAll x y
  lay := fun x => by
    show PyData.canLay0 (.list (x.map f)) = true
    simp only [PyData.canLay0]
    exact D.layAll x
  dep := fun x => by
    show PyData.depth (.list (x.map f)) ≤ d + 1
    simp only [PyData.depth]
    have := D.depAll x
    omega
theorem Dat.shaped {α : Type} [DecidableEq α] {f : α → PyData} {d : Nat} (D : Dat f d) (hd : d ≤ 20) (x : α) : SeqAt.shaped (f x) = true := by
  unfold SeqAt.shaped
  rw [D.lay, decide_eq_true (by have := D.dep x; omega)]; rfl
/-- a number -/
def nd (x : Nat) : PyData := .int (x : Int)
theorem dat_nd : Dat nd 1 where
  eqv := fun x y => by
    show PyData.eqv (.int (x : Int)) (.int (y : Int)) = _
    simp only [PyData.eqv]
    by_cases h : x = y
    · subst h; simp
    · rw [decide_eq_false h, beq_eq_false_iff_ne]
      omega
  lay := fun x => by show PyData.canLay0 (.int (x : Int)) = true; simp only [PyData.canLay0]
  dep := fun x => by show PyData.depth (.int (x : Int)) ≤ 1; simp [PyData.depth]
/-- a pair -/
def pd (p : Nat × Nat) : PyData := .tuple [nd p.1, nd p.2]
theorem dat_pd : Dat pd 2 where
  eqv := fun x y => by
    show PyData.eqv (.tuple [nd x.1, nd x.2]) (.tuple [nd y.1, nd y.2]) = _
    simp only [PyData.eqv]
    have := dat_nd.eqvAll [x.1, x.2] [y.1, y.2]
    simp only [List.map_cons, List.map_nil] at this
    rw [this]
    exact decide_eq_decide.mpr ⟨fun e => by injection e with e1 e2; injection e2 with e2 _; exact Prod.ext e1 e2, fun e => by rw [e]⟩
  lay := fun x => by
    show PyData.canLay0 (.tuple [nd x.1, nd x.2]) = true
    simp only [PyData.canLay0]
    exact dat_nd.layAll [x.1, x.2]
  dep := fun x => by
    show PyData.depth (.tuple [nd x.1, nd x.2]) ≤ 2
    simp only [PyData.depth]
    have := dat_nd.depAll [x.1, x.2]
    simp only [List.map_cons, List.map_nil] at this
    omega
/-- a list of pairs -/
def rd (es : List (Nat × Nat)) : PyData := .list (es.map pd)
theorem dat_rd : Dat rd 3 := dat_pd.list
theorem dp_nums {K : PySem.W.Frag} {H : Hp} : ∀ l : List Nat, DpAll K H (l.map vi) (l.map nd)
  | [] => .nil
  | x :: l => .cons (.int _) (dp_nums l)
theorem dp_pairs {K : PySem.W.Frag} {H : Hp} {ts : List Addr} {es : List (Nat × Nat)} (h : Tups H ts es) : DpAll K H (ts.map V.ref) (es.map pd) := by
  refine dp_of (by rw [List.length_map, List.length_map, h.1]) fun i v d hv hd => ?_
  obtain ⟨t, ht, rfl⟩ := ref_get hv
  rw [List.getElem?_map] at hd
  obtain ⟨p, hp, rfl⟩ := Option.map_eq_some_iff.mp hd
  exact .tup (SqT.of (h.2 i t p ht hp)) (.cons (.int _) (.cons (.int _) .nil))
theorem dp_row {K : PySem.W.Frag} {H : Hp} {a : Addr} {es : List (Nat × Nat)} (h : PairL H a es) : Dp K H (.ref a) (rd es) := by
  obtain ⟨ts, h1, h2⟩ := h
  exact .lst (SqL.of h1) (dp_pairs h2)
theorem firsts_get {α : Type} [DecidableEq α] {l : List α} {i : Nat} {x : α} (h : l[i]? = some x) : (firsts l)[i]? = some (l.findIdx fun y => decide (y = x)) := by
  unfold firsts
  rw [List.getElem?_map, h]; rfl
theorem firsts_len {α : Type} [DecidableEq α] (l : List α) : (firsts l).length = l.length := by
  unfold firsts
  rw [List.length_map]
end Sw
namespace Sw
open PySem PySem.Spec PyProof.Rows L2
def top (i : Nat) : Stmt := PySem.Challenge.pw_seenonway_s08_least.main.body.getD i (.Pass ⟨0, 0, 0, 0⟩)
abbrev sLinks : Stmt := top 4
section
variable {P : Program} {w : World} {K : PySem.W.Frag} {mg : Str → Option Value} {base : Heap}
/-! ### links_of -/
theorem scLinks : FnScope ["net", "k"] ["net"] (defScope sLinks) := ⟨rfl, rfl, rfl, by decide +kernel, rfl, by decide +kernel, by decide +kernel⟩
def spLinks (K : PySem.W.Frag) : Sp := fun vs H Q _ => ∃ (a : Addr) (l : List Nat), vs = [.ref a] ∧ SqL K H a (l.map vi) ∧ l.length ≤ 24 ∧ l.length % 2 = 0 ∧ ∀ (H' : Hp) (p : Addr), Same H H' → H p = none → PairL H' p (pairs l) → Q (.ref p) H'
theorem ok_links {f : Addr} {fd : FuncData} (F : Fun K "links_of" "links_of" sLinks f fd) (mr : mg "range" = none) (ml : mg "len" = none) : FnOk P w K mg base CX0 1 f fd ["net"] (spLinks K) := by
  refine F.ok scLinks (fun vs H Q E h => ?_) (fun cdv A outer s H vs Q E hr h => ?_)
  · obtain ⟨a, l, rfl, _⟩ := h
    rfl
  · obtain ⟨a, l, rfl, hS, hlen, hev, k⟩ := h
    refine ⟨_, pss_one (ps_ret (pe_lc (own := [("k", 1)]) (g := gName 1) (tt := tYes) rfl scLinks.nd
      (pi_range3 (by rfl) mr (pa_cons pe_int (pa_cons (pe_callB call_len_seq (by rfl) ml PySem.boot_len (pa_cons (pv 0) pa_nil)) (pa_cons pe_int pa_nil))))
      (blkOk_by (own := [("k", 1)]) (N := ["net", "k"]) (sc := defScope sLinks) (by decide +kernel))
      (fun _ _ _ _ _ => pg_name (i := 1) scLinks.nd rfl (Or.inl rfl)) (fun _ _ _ _ _ => pts_nil)
      (fun _ _ _ _ _ => pe_tup (pa_cons (pe_ix (ix_list : IxR _ (rIxL K)) (pv 0) (pv 1) (fun _ _ => rfl)) (pa_cons (pe_ix (ix_list : IxR _ (rIxL K)) (pv 0) (pe_op op_add (pv 1) pe_int) (fun _ _ => rfl)) pa_nil))))), ?_⟩
    refine ⟨_, rfl, a, _, rfl, .inl hS, ?_⟩
    refine ⟨0, _, 2, (l.length + 1) / 2, rfl, (by rw [List.length_map]; exact rgc2 _ hlen), fun D nD => ?_⟩
    have hp : (pairs l).length = (l.length + 1) / 2 := by rw [pairs_len]; omega
    refine lc_stepped (lo := 0) (c := 2) (n := (l.length + 1) / 2) (fun i H' => ∃ ts : List Addr, H' D = some (.lst (ts.map V.ref)) ∧ Tups H' ts ((pairs l).take i) ∧ Same H H')
      ⟨[], upd_same, Tups.nil, same_upd nD⟩ (fun i H' hi h => ?_) (fun H' h => ?_)
    · obtain ⟨ts, h1, h2, sm⟩ := h
      have g0 : 2 * i < l.length := by omega
      have g1 : 2 * i + 1 < l.length := by omega
      have e0 : (l.map vi)[2 * i]? = some (vi l[2 * i]) := map_get (List.getElem?_eq_getElem g0)
      have e1 : (l.map vi)[2 * i + 1]? = some (vi l[2 * i + 1]) := map_get (List.getElem?_eq_getElem g1)
      have hS' : SqL K H' a (l.map vi) := sm.seq hS
      refine ⟨rfl, ?_⟩
      dsimp only [tYes]
      rw [if_pos rfl]
      refine ⟨_, rfl, _, rfl, a, _, _, _, rfl, rfl, hS', at_of (j := 2 * i) (by omega) e0, ?_⟩
      refine ⟨_, rfl, _, rfl, _, _, rfl, rfl, a, _, _, _, rfl, rfl, hS', at_of (j := 2 * i + 1) (by omega) e1, ?_⟩
      refine ⟨(by show 2 ≤ sizeLine; decide), fun t nt => ?_⟩
      have nDt : D ≠ t := ne_of_none h1 nt
      have hl : ts.length ≤ 24 := by
        have := h2.1
        rw [List.length_take] at this
        omega
      refine ⟨_, by rw [upd_ne nDt]; exact h1, by rw [List.length_map]; exact Nat.lt_of_le_of_lt hl (by decide), ?_⟩
      refine ⟨ts ++ [t], by rw [upd_same, List.map_append]; rfl, ?_, ?_⟩
      · rw [take_snoc (pairs_get l i g1)]
        have ht : (upd H' t (.tup [vi l[2 * i], vi l[2 * i + 1]])) t = some (.tup [vi l[2 * i], vi l[2 * i + 1]]) := upd_same
        refine Tups.mono (Tups.snoc (p := (l[2 * i], l[2 * i + 1])) (h2.same (same_upd nt)) ht) fun q x y e => ?_
        rw [upd_ne (ne_of e (by rw [upd_ne nDt]; exact h1) (by intro z; cases z))]
        exact e
      · exact same_put (sm.trans (same_upd nt)) nD
    · obtain ⟨ts, h1, h2, sm⟩ := h
      rw [← hp, List.take_length] at h2
      exact k H' D sm nD ⟨ts, h1, h2⟩
end
end Sw
namespace Sw
open PySem PySem.Spec PyProof.Rows L2
abbrev sSound : Stmt := top 5
section
variable {P : Program} {w : World} {K : PySem.W.Frag} {mg : Str → Option Value} {base : Heap}
/-! ### links_are_sound -/
theorem scSound : FnScope ["n", "links", "met", "first", "last", "pair"] ["n", "links"] (defScope sSound) := ⟨rfl, rfl, rfl, by decide +kernel, rfl, by decide +kernel, by decide +kernel⟩
def spSound : Sp := fun vs H Q _ => ∃ (a : Addr) (n : Nat) (ls : List (Nat × Nat)), vs = [vi n, .ref a] ∧ PairL H a ls ∧ ls.length ≤ 24 ∧ ∀ H' : Hp, Same H H' → Q (.bl (decide (Sound n ls))) H'
/-- a link as a key -/
def nk (q : Nat × Nat) : List Key := [Sum.inl (q.1 : Int), Sum.inl (q.2 : Int)]
def nkv (q : Nat × Nat) : List Key × V := (nk q, .bl true)
theorem nk_inj {p q : Nat × Nat} (h : nk p = nk q) : p = q := by
  unfold nk at h
  simp only [List.cons.injEq, Sum.inl.injEq, and_true] at h
  exact Prod.ext (Int.ofNat.inj h.1) (Int.ofNat.inj h.2)
theorem met_not {l : List (Nat × Nat)} {q : Nat × Nat} (h : valV ((l.map norm).map nkv) (nk q) = none) : ¬ q ∈ l.map norm := by
  intro hm
  refine valV_not h ?_
  rw [List.map_map]
  exact List.mem_map.mpr ⟨q, hm, rfl⟩
theorem met_in {l : List (Nat × Nat)} {q : Nat × Nat} {v : V} (h : valV ((l.map norm).map nkv) (nk q) = some v) : q ∈ l.map norm := by
  have := valV_in h
  rw [List.map_map] at this
  obtain ⟨r, hr, e⟩ := List.mem_map.mp this
  have e' : r = q := nk_inj e
  exact e' ▸ hr
theorem min_nat (a b : Nat) : (if (b : Int) < (a : Int) then (b : Int) else (a : Int)) = ((min a b : Nat) : Int) := by
  split <;> omega
theorem max_nat (a b : Nat) : (if (b : Int) > (a : Int) then (b : Int) else (a : Int)) = ((max a b : Nat) : Int) := by
  split <;> omega
theorem ok_sound {f : Addr} {fd : FuncData} (F : Fun K "links_are_sound" "links_are_sound" sSound f fd) (m1 : mg "min" = none) (m2 : mg "max" = none) : FnOk P w K mg base CX0 1 f fd ["n", "links"] spSound := by
  refine F.ok scSound (fun vs H Q E h => ?_) (fun cdv A outer s H vs Q E hr h => ?_)
  · obtain ⟨a, n, ls, rfl, _⟩ := h
    rfl
  · obtain ⟨a, n, ls, rfl, ⟨ts, hts, hT⟩, hlen, k⟩ := h
    have hu := hu_of hr
    refine ⟨_, pss_cons (ps_set (i := 2) scSound.nd rfl (Or.inl rfl) pe_dnewT)
      (pss_cons (ps_for PassesOwn.never rfl (pi_list (pv 1)) (pg_tup rfl (pgs_cons (pg_name (i := 3) scSound.nd rfl (.inl rfl)) (pgs_cons (pg_name (i := 4) scSound.nd rfl (.inl rfl)) pgs_nil)))
        (pss_cons (ps_if (PW.pt (pw_or (pt_cmpR op_ge (pv 3) (pv 0) (nomark _)) (pw_or (pt_cmpR op_ge (pv 4) (pv 0) (nomark _)) (pw_or1 (pt_cmpR op_eq (pv 3) (pv 4) (nomark _)))))) (pss_one (ps_ret pe_bl)) pss_nil)
        (pss_cons (ps_set (i := 5) scSound.nd rfl (Or.inl rfl) (pe_tup (pa_cons (pe_callB (call_min2 rfl) (by rfl) m1 (by decide +kernel) (pa_cons (pv 3) (pa_cons (pv 4) pa_nil))) (pa_cons (pe_callB (call_max2 rfl) (by rfl) m2 (by decide +kernel) (pa_cons (pv 3) (pa_cons (pv 4) pa_nil))) pa_nil))))
        (pss_cons (ps_if (pt_cmp (pc_din hu (pv 5) (pv 2))) (pss_one (ps_ret pe_bl)) pss_nil)
        (pss_one (ps_dput hu (pv 2) (pv 5) pe_bl rfl))))))
      (pss_one (ps_ret pe_bl))), ?_⟩
    intro d nd
    have s1 : Same H (upd H d (.dT [])) := same_upd nd
    refine ⟨_, rfl, a, rfl, ⟨_, SqL.of (s1 _ _ hts)⟩, for_list (K := K) (a := a) (xs := ts.map V.ref)
      (fun i σ H' => ∃ y3 y4 y5 : Option V, σ = [some (vi n), some (.ref a), some (.ref d), y3, y4, y5] ∧ Same H H' ∧ H' d = some (.dT (((ls.take i).map norm).map nkv)) ∧ Sound n (ls.take i))
      ⟨none, none, none, rfl, s1, upd_same, ⟨fun p hp => by simp at hp, by simp⟩⟩ (fun i σ H' _ ⟨_, _, _, _, s5, _⟩ => SqL.of (s5 _ _ hts)) ?_ ?_⟩
    · rintro i y σ H' hi ⟨y3, y4, y5, rfl, sm, hd, hso⟩
      obtain ⟨t, ht, rfl⟩ := ref_get hi
      obtain ⟨p, hp⟩ := get_of_len hT.1 ht
      have htt := sm _ _ (hT.2 i t p ht hp)
      have hnext : ls.take (i + 1) = ls.take i ++ [p] := take_snoc hp
      -- first, last
      refine ⟨t, _, rfl, SqT.of htt, rfl, _, _, rfl, _, _, rfl, rfl, ?_⟩
      have bad : ∀ H2, Same H H2 → ¬ (okLink n p ∧ ¬ norm p ∈ (ls.take i).map norm) → Q (.bl false) H2 := fun H2 s2 hb => by
        have hns : ¬ Sound n ls := fun z => hb (by
          have z2 := sound_take n ls (i + 1) z
          rw [hnext, sound_snoc] at z2
          exact z2.2)
        have e := k H2 s2
        rw [decide_eq_false hns] at e
        exact e
      refine ⟨_, rfl, _, rfl, _, _, rfl, rfl, _, rfl, ?_⟩
      refine ite2 (fun h1 => ?_) (fun h1 => ?_)
      · have h1 := of_decide_eq_true h1
        exact iteT (bad H' sm fun z => by have := z.1.1; omega)
      · have h1 : ¬ (n : Int) ≤ (p.1 : Int) := fun z => h1 (decide_eq_true z)
        refine ⟨_, rfl, _, rfl, _, _, rfl, rfl, _, rfl, ?_⟩
        refine ite2 (fun h2 => ?_) (fun h2 => ?_)
        · have h2 := of_decide_eq_true h2
          exact iteT (bad H' sm fun z => by have := z.1.2.1; omega)
        · have h2 : ¬ (n : Int) ≤ (p.2 : Int) := fun z => h2 (decide_eq_true z)
          refine ⟨_, rfl, _, rfl, rfl, _, rfl, ?_⟩
          refine ite2 (fun h3 => ?_) (fun h3 => ?_)
          · have h3 := of_decide_eq_true h3
            exact bad H' sm fun z => z.1.2.2 (by injection h3 with h3; exact Int.ofNat.inj h3)
          · have h3 : ¬ p.1 = p.2 := fun z => h3 (decide_eq_true (by rw [z]))
            have okp : okLink n p := ⟨by omega, by omega, h3⟩
            -- pair
            refine ⟨_, rfl, _, rfl, _, _, rfl, _, rfl, _, rfl, _, _, rfl, (by show 2 ≤ sizeLine; decide), fun q nq => ?_⟩
            rw [min_nat, max_nat] at *
            have eq : (upd H' q (.tup [vi (min p.1 p.2), vi (max p.1 p.2)])) q = some (.tup ((nk (norm p)).map kV)) := upd_same
            have ndq : d ≠ q := ne_of_none hd nq
            have hd2 : (upd H' q (.tup [vi (min p.1 p.2), vi (max p.1 p.2)])) d = some (.dT (((ls.take i).map norm).map nkv)) := by rw [upd_ne ndq]; exact hd
            have sq : Same H (upd H' q (.tup [vi (min p.1 p.2), vi (max p.1 p.2)])) := sm.trans (same_upd nq)
            refine ⟨_, rfl, _, rfl, d, _, rfl, DGet.t (k := nk (norm p)) hd2 eq, _, rfl, ?_⟩
            cases hv : valV (((ls.take i).map norm).map nkv) (nk (norm p)) with
            | some v => exact iteT (bad _ sq fun z => z.2 (met_in hv))
            | none =>
              refine iteF ?_
              refine ⟨_, rfl, _, rfl, d, _, rfl, DPut.t (k := nk (norm p)) hd2 eq ?_, ?_⟩
              · rw [List.length_map, List.length_map, List.length_take]
                exact Nat.lt_of_le_of_lt (Nat.le_trans (Nat.min_le_right _ _) hlen) (by decide)
              · refine ⟨_, _, _, rfl, ?_, ?_, ?_⟩
                · exact same_put sq nd
                · rw [upd_same, putK_new _ hv, hnext, List.map_append, List.map_append]
                  rfl
                · rw [hnext, sound_snoc]
                  exact ⟨hso, okp, met_not hv⟩
    · rintro σ H' ⟨y3, y4, y5, rfl, sm, hd, hso⟩
      rw [List.length_map, hT.1, List.take_length] at hso
      have e := k H' sm
      rw [decide_eq_true hso] at e
      exact e
end
end Sw
namespace Sw
open PySem PySem.Spec PyProof.Rows L2
abbrev sTable : Stmt := top 6
/-- the table of a net -/
def tab (n : Nat) (ls : List (Nat × Nat)) : List (List (Nat × Nat)) := (List.range n).map (ent ls)
theorem tab_get {n u : Nat} (ls : List (Nat × Nat)) (h : u < n) : (tab n ls)[u]? = some (ent ls u) := by
  unfold tab
  rw [List.getElem?_map, List.getElem?_range h]; rfl
theorem tab_len (n : Nat) (ls : List (Nat × Nat)) : (tab n ls).length = n := by
  unfold tab
  rw [List.length_map, List.length_range]
theorem tab_nil (n : Nat) : tab n [] = List.replicate n [] := by
  apply List.ext_getElem?
  intro i
  by_cases h : i < n
  · rw [tab_get _ h, List.getElem?_replicate, if_pos h]; rfl
  · rw [List.getElem?_eq_none (by rw [tab_len]; omega), List.getElem?_replicate, if_neg h]
theorem tab_snoc {n a b : Nat} (l : List (Nat × Nat)) (ha : a < n) (hb : b < n) (hab : a ≠ b) :
    ((tab n l).set a (ent l a ++ [(b, (ent l b).length)])).set b (ent l b ++ [(a, (ent l a).length)]) = tab n (l ++ [(a, b)]) := by
  apply List.ext_getElem?
  intro i
  by_cases h : i < n
  · rw [tab_get _ h, ent_snoc]
    by_cases e2 : b = i
    · subst e2
      rw [List.getElem?_set_self (by rw [List.length_set, tab_len]; exact h), if_neg hab, if_pos rfl]
    · rw [List.getElem?_set_ne e2]
      by_cases e1 : a = i
      · subst e1
        rw [List.getElem?_set_self (by rw [tab_len]; exact h), if_pos rfl]
      · rw [List.getElem?_set_ne e1, tab_get _ h, if_neg e1, if_neg e2, List.append_nil]
  · rw [List.getElem?_eq_none (by rw [List.length_set, List.length_set, tab_len]; omega), List.getElem?_eq_none (by rw [tab_len]; omega)]
theorem ent_len (ls : List (Nat × Nat)) (u : Nat) : (ent ls u).length ≤ ls.length := by
  induction ls using snoc_ind with
  | h0 => simp [ent_nil]
  | hs l p ih =>
    obtain ⟨a, b⟩ := p
    rw [ent_snoc, List.length_append, List.length_append]
    have : (if a = u then [(b, (ent l b).length)] else if b = u then [(a, (ent l a).length)] else []).length ≤ 1 := by
      split
      · simp
      · split <;> simp
    simp only [List.length_cons, List.length_nil]
    omega
section
variable {P : Program} {w : World} {K : PySem.W.Frag} {mg : Str → Option Value} {base : Heap}
/-! ### exit_table -/
theorem scTable : FnScope ["n", "links", "table", "first", "last", "number_at_first", "number_at_last", "place"] ["n", "links"] (defScope sTable) := ⟨rfl, rfl, rfl, by decide +kernel, rfl, by decide +kernel, by decide +kernel⟩
def spTable : Sp := fun vs H Q _ => ∃ (a : Addr) (n : Nat) (ls : List (Nat × Nat)), vs = [vi n, .ref a] ∧ PairL H a ls ∧ n ≤ 7 ∧ ls.length ≤ 24 ∧ (∀ p ∈ ls, okLink n p) ∧
  ∀ (H' : Hp) (p : Addr) (rs : List Addr), Same H H' → H p = none → TabAt H' p rs (tab n ls) → Q (.ref p) H'
theorem ok_table {f : Addr} {fd : FuncData} (F : Fun K "exit_table" "exit_table" sTable f fd) (mr : mg "range" = none) (ml : mg "len" = none) : FnOk P w K mg base CX0 1 f fd ["n", "links"] spTable := by
  refine F.ok scTable (fun vs H Q E h => ?_) (fun cdv A outer s H vs Q E hr h => ?_)
  · obtain ⟨a, n, ls, rfl, _⟩ := h
    rfl
  · obtain ⟨a, n, ls, rfl, ⟨ts, hts, hT⟩, hn, hlen, hok, k⟩ := h
    refine ⟨_, pss_cons (ps_setLc (i := 2) (own := [("place", 7)]) (g := gName 7) (tt := tYes) (by rfl) scTable.nd rfl rfl (sw_true rfl rfl rfl (by decide +kernel)) (pi_range1 (by rfl) mr (pa_cons (pv 0) pa_nil))
        (blkOk_by (own := [("place", 7)]) (N := ["n", "links", "table", "first", "last", "number_at_first", "number_at_last", "place"]) (sc := defScope sTable) (by decide +kernel))
        (fun _ _ _ _ _ => pg_name (i := 7) scTable.nd rfl (Or.inl rfl)) (fun _ _ _ _ _ => pts_nil) (fun _ _ _ _ _ => pe_lst pa_nil))
      (pss_cons (ps_for PassesOwn.never rfl (pi_list (pv 1)) (pg_tup rfl (pgs_cons (pg_name (i := 3) scTable.nd rfl (.inl rfl)) (pgs_cons (pg_name (i := 4) scTable.nd rfl (.inl rfl)) pgs_nil)))
        (pss_cons (ps_set (i := 5) scTable.nd rfl (.inl rfl) (pe_callB call_len_seq (by rfl) ml PySem.boot_len (pa_cons (pe_ix ix_list (pv 2) (pv 3) (fun _ _ => rfl)) pa_nil)))
        (pss_cons (ps_set (i := 6) scTable.nd rfl (.inl rfl) (pe_callB call_len_seq (by rfl) ml PySem.boot_len (pa_cons (pe_ix ix_list (pv 2) (pv 4) (fun _ _ => rfl)) pa_nil)))
        (pss_cons (ps_expr (pe_bm PySem.F.plainAttrs_list PySem.F.slot_list_append PySem.F.type_list_append mt_append (pe_ix ix_list (pv 2) (pv 3) (fun _ _ => rfl)) (pa_cons (pe_tup (pa_cons (pv 4) (pa_cons (pv 6) pa_nil))) pa_nil)))
        (pss_one (ps_expr (pe_bm PySem.F.plainAttrs_list PySem.F.slot_list_append PySem.F.type_list_append mt_append (pe_ix ix_list (pv 2) (pv 4) (fun _ _ => rfl)) (pa_cons (pe_tup (pa_cons (pv 3) (pa_cons (pv 5) pa_nil))) pa_nil))))))))
      (pss_one (ps_ret (pv 2)))), ?_⟩
    -- table = [[] for place in range(n)]
    refine ⟨_, rfl, (n : Int), rfl, by omega, by omega, fun D nD => ?_⟩
    refine lc_range (lo := 0) (n := ((n : Int)).toNat) (fun i H' => ∃ rs : List Addr, TabAt H' D rs (List.replicate i []) ∧ Same H H' ∧ (∀ r ∈ rs, H r = none))
      ⟨[], ⟨upd_same, by simp, by simp, rfl, fun u r es h => by simp at h⟩, same_upd nD, by simp⟩ (fun i H' hi h => ?_) (fun H1 h => ?_)
    · obtain ⟨rs, hT', sm, hf⟩ := h
      refine ⟨rfl, ?_⟩
      dsimp only [tYes]
      rw [if_pos rfl]
      refine ⟨Nat.zero_le _, fun l nl => ?_⟩
      have nDl : D ≠ l := ne_of_none hT'.lst nl
      have hl : rs.length = i := by rw [hT'.len, List.length_replicate]
      refine ⟨_, by rw [upd_ne nDl]; exact hT'.lst, by rw [List.length_map, hl]; exact Nat.lt_of_lt_of_le hi (Nat.le_trans (by omega : ((n : Int)).toNat ≤ 7) (by decide)), ?_⟩
      have nlr : ¬ l ∈ rs := fun m => by
        obtain ⟨u, hu, e⟩ := List.mem_iff_getElem.mp m
        obtain ⟨es, he⟩ := get_of_len hT'.len (List.getElem?_eq_getElem hu)
        obtain ⟨ts', q1, _⟩ := hT'.row u _ es (List.getElem?_eq_getElem hu) he
        rw [e, nl] at q1
        cases q1
      refine ⟨rs ++ [l], ⟨by rw [upd_same, List.map_append]; rfl, ?_, ?_, by simp [hl], fun u r es h1 h2 => ?_⟩, same_put (sm.trans (same_upd nl)) nD, fun r hr' => ?_⟩
      · exact nd_snoc hT'.nd nlr
      · intro m
        rcases List.mem_append.mp m with z | z
        · exact hT'.out z
        · exact nDl (by simpa using z)
      · have hes : es = [] := by
          rw [List.getElem?_replicate] at h2
          split at h2
          · exact (Option.some.inj h2).symm
          · cases h2
        subst hes
        have hrD : r ≠ D := fun e => by
          subst e
          rcases List.mem_append.mp (List.mem_of_getElem? h1) with z | z
          · exact hT'.out z
          · exact nDl (by simpa using z)
        refine ⟨[], ?_, Tups.nil⟩
        rw [upd_ne hrD]
        by_cases hu : u < rs.length
        · rw [List.getElem?_append_left hu] at h1
          obtain ⟨ts', q1, q2⟩ := hT'.row u r [] h1 (by rw [List.getElem?_replicate, if_pos (by omega)])
          have : ts' = [] := List.length_eq_zero_iff.mp q2.1
          subst this
          exact same_upd nl _ _ q1
        · rw [List.getElem?_append_right (by omega)] at h1
          have e : u - rs.length = 0 := by
            have := (List.getElem?_eq_some_iff.mp h1).1
            simp at this
            omega
          rw [e] at h1
          cases h1
          exact upd_same
      · rcases List.mem_append.mp hr' with z | z
        · exact hf r z
        · have : r = l := by simpa using z
          subst this
          exact sm.free nl
    · obtain ⟨rs, hT', sm, hf⟩ := h
      rw [show ((n : Int)).toNat = n from rfl, ← tab_nil] at hT'
      -- for first, last in links
      refine ⟨_, rfl, a, rfl, ⟨_, SqL.of (sm _ _ hts)⟩, for_list (K := K) (a := a) (xs := ts.map V.ref)
        (fun i σ H' => ∃ y3 y4 y5 y6 : Option V, σ = [some (vi n), some (.ref a), some (.ref D), y3, y4, y5, y6, none] ∧ Same H H' ∧ TabAt H' D rs (tab n (ls.take i)))
        ⟨none, none, none, none, rfl, sm, hT'⟩ (fun i σ H' _ ⟨_, _, _, _, _, s5, _⟩ => SqL.of (s5 _ _ hts)) ?_ ?_⟩
      · rintro i y σ H' hi ⟨y3, y4, y5, y6, rfl, sm', hTab⟩
        obtain ⟨t, ht, rfl⟩ := ref_get hi
        obtain ⟨p, hp⟩ := get_of_len hT.1 ht
        have htt := sm' _ _ (hT.2 i t p ht hp)
        obtain ⟨o1, o2, o3⟩ := hok p (List.mem_of_getElem? hp)
        have hnext : ls.take (i + 1) = ls.take i ++ [p] := take_snoc hp
        obtain ⟨r1, ts1, hr1, hl1, hT1⟩ := hTab.get (tab_get (ls.take i) o1)
        obtain ⟨r2, ts2, hr2, hl2, hT2⟩ := hTab.get (tab_get (ls.take i) o2)
        refine ⟨t, _, rfl, SqT.of htt, rfl, _, _, rfl, _, _, rfl, rfl, ?_⟩
        refine ⟨_, rfl, _, rfl, D, _, _, _, rfl, rfl, SqL.of hTab.lst, at_of (j := p.1) rfl (map_get hr1), r1, _, rfl, .inl (SqL.of hl1), ?_⟩
        refine ⟨_, rfl, _, rfl, D, _, _, _, rfl, rfl, SqL.of hTab.lst, at_of (j := p.2) rfl (map_get hr2), r2, _, rfl, .inl (SqL.of hl2), ?_⟩
        have len1 : (((ts1.map V.ref).length : Nat) : Int) = (((ent (ls.take i) p.1).length : Nat) : Int) := by rw [List.length_map, hT1.1]
        have len2 : (((ts2.map V.ref).length : Nat) : Int) = (((ent (ls.take i) p.2).length : Nat) : Int) := by rw [List.length_map, hT2.1]
        have hli : (ls.take i).length ≤ 24 := by rw [List.length_take]; omega
        have small1 : (ts1.map V.ref).length < sizeLine := by
          rw [List.length_map, hT1.1]
          exact Nat.lt_of_le_of_lt (Nat.le_trans (ent_len _ _) hli) (by decide)
        -- table[first].append((last, number_at_last))
        refine ⟨_, rfl, _, rfl, D, _, _, _, rfl, rfl, SqL.of hTab.lst, at_of (j := p.1) rfl (map_get hr1), .inl ⟨rfl, _, SqL.of hl1⟩, _, rfl, _, rfl, (by show 2 ≤ sizeLine; decide), fun t1 nt1 => ?_⟩
        have hTab1 := hTab.same (same_upd (o := .tup [vi p.2, vi (ent (ls.take i) p.2).length]) nt1)
        have hl1' : (upd H' t1 (.tup [vi p.2, vi (ent (ls.take i) p.2).length])) r1 = some (.lst (ts1.map V.ref)) := same_upd nt1 _ _ hl1
        have G1 := hTab1.grow (p := (p.2, (ent (ls.take i) p.2).length)) (tab_get (ls.take i) o1) hr1 hl1' (hT1.same (same_upd nt1)) upd_same
        have S1 : Same H (upd (upd H' t1 (.tup [vi p.2, vi (ent (ls.take i) p.2).length])) r1 (.lst ((ts1 ++ [t1]).map V.ref))) := same_put (sm'.trans (same_upd nt1)) (hf r1 (List.mem_of_getElem? hr1))
        rw [List.map_append] at G1 S1
        rw [len2]
        refine ⟨r1, _, _, rfl, rfl, hl1', small1, ?_⟩
        -- table[last].append((first, number_at_first))
        have g2 : ((tab n (ls.take i)).set p.1 (ent (ls.take i) p.1 ++ [(p.2, (ent (ls.take i) p.2).length)]))[p.2]? = some (ent (ls.take i) p.2) := by
          rw [List.getElem?_set_ne o3, tab_get _ o2]
        obtain ⟨r2', ts3, hr2', hl3, hT3⟩ := G1.get g2
        have er : r2' = r2 := Option.some.inj (hr2'.symm.trans hr2)
        subst er
        have small3 : (ts3.map V.ref).length < sizeLine := by
          rw [List.length_map, hT3.1]
          exact Nat.lt_of_le_of_lt (Nat.le_trans (ent_len _ _) hli) (by decide)
        refine ⟨_, rfl, _, rfl, D, _, _, _, rfl, rfl, SqL.of G1.lst, at_of (j := p.2) rfl (map_get hr2), .inl ⟨rfl, _, SqL.of hl3⟩, _, rfl, _, rfl, (by show 2 ≤ sizeLine; decide), fun t2 nt2 => ?_⟩
        rw [len1]
        have hl3' := same_upd (o := .tup [vi p.1, vi (ent (ls.take i) p.1).length]) nt2 _ _ hl3
        have G2 := (G1.same (same_upd (o := .tup [vi p.1, vi (ent (ls.take i) p.1).length]) nt2)).grow (p := (p.1, (ent (ls.take i) p.1).length)) g2 hr2 hl3' (hT3.same (same_upd nt2)) upd_same
        rw [tab_snoc _ o1 o2 o3, List.map_append] at G2
        refine ⟨r2', _, _, rfl, rfl, hl3', small3, ?_⟩
        refine ⟨_, _, _, _, rfl, same_put (S1.trans (same_upd nt2)) (hf r2' (List.mem_of_getElem? hr2)), ?_⟩
        rw [hnext]
        exact G2
      · rintro σ H' ⟨y3, y4, y5, y6, rfl, sm', hTab⟩
        rw [List.length_map, hT.1, List.take_length] at hTab
        exact ⟨_, rfl, k H' D rs sm' nD hTab⟩
end
end Sw
namespace Sw
open PySem PySem.Spec PyProof.Rows L2
abbrev sSteps : Stmt := top 7
abbrev sHang : Stmt := top 8
/-- a place and its steps, as a dict's pair -/
def skv (p : Nat × Nat) : Key × V := ((Sum.inl (p.1 : Int) : Key), vi p.2)
theorem steps_none {S : List (Nat × Nat)} {x : Nat} (h : ¬ x ∈ plc S) : valV (S.map skv) (Sum.inl (x : Int) : Key) = none := by
  cases hv : valV (S.map skv) (Sum.inl (x : Int) : Key) with
  | none => rfl
  | some v =>
    have := valV_in hv
    rw [List.map_map] at this
    obtain ⟨r, hr, e⟩ := List.mem_map.mp this
    have e : (Sum.inl (r.1 : Int) : Key) = Sum.inl (x : Int) := e
    injection e with e
    have e2 : r.1 = x := Int.ofNat.inj e
    exact absurd (mem_plc.mpr ⟨r.2, by rw [← e2]; exact hr⟩) h
theorem steps_val : ∀ {S : List (Nat × Nat)} {x e : Nat}, (plc S).Nodup → (x, e) ∈ S → valV (S.map skv) (Sum.inl (x : Int) : Key) = some (vi e)
  | [], _, _, _, h => by simp at h
  | q :: r, x, e, hd, h => by
    by_cases z : q.1 = x
    · have : e = q.2 := plc_uniq hd h (by rw [← z]; exact List.mem_cons_self)
      rw [List.map_cons, valV_pos (show (skv q).1 = _ by show (Sum.inl (q.1 : Int) : Key) = _; rw [z]), this]
      rfl
    · rw [List.map_cons, valV_neg (fun y => z (by
        have y : (Sum.inl (q.1 : Int) : Key) = Sum.inl (x : Int) := y
        injection y with y
        exact Int.ofNat.inj y))]
      refine steps_val ((List.nodup_cons.mp (show (q.1 :: plc r).Nodup from hd)).2) ?_
      rcases List.mem_cons.mp h with y | y
      · exact absurd (by rw [← y]) z
      · exact y
section
variable {P : Program} {w : World} {K : PySem.W.Frag} {mg : Str → Option Value} {base : Heap}
/-! ### steps_from -/
theorem scSteps : FnScope ["table", "start", "steps", "reached", "looked_at", "here", "place", "entry"] ["table", "start"] (defScope sSteps) := ⟨rfl, rfl, rfl, by decide +kernel, rfl, by decide +kernel, by decide +kernel⟩
def spSteps : Sp := fun vs H Q _ => ∃ (a : Addr) (rs : List Addr) (n u : Nat) (ls : List (Nat × Nat)), vs = [.ref a, vi u] ∧ TabAt H a rs (tab n ls) ∧ u < n ∧ n ≤ 7 ∧ (∀ p ∈ ls, p.1 < n ∧ p.2 < n) ∧
  ∀ (H' : Hp) (d : Addr) (S : List (Nat × Nat)), Same H H' → H' d = some (.dK (S.map skv)) → Way n ls u S S.length → Q (.ref d) H'
theorem ok_steps {f : Addr} {fd : FuncData} (F : Fun K "steps_from" "steps_from" sSteps f fd) (ml : mg "len" = none) : FnOk P w K mg base CX0 1 f fd ["table", "start"] spSteps := by
  refine F.ok scSteps (fun vs H Q E h => ?_) (fun cdv A outer s H vs Q E hr h => ?_)
  · obtain ⟨a, rs, n, u, ls, rfl, _⟩ := h
    rfl
  · obtain ⟨a, rs, n, u, ls, rfl, hTab, hun, hn7, hls, k⟩ := h
    have hu := hu_of hr
    refine ⟨_, pss_cons (ps_set (i := 2) scSteps.nd rfl (.inl rfl) (pe_disp (pps_cons (pv 1) pe_int pps_nil) (by rfl) (by rfl) (fun z => by cases z) (by decide)))
      (pss_cons (ps_set (i := 3) scSteps.nd rfl (.inl rfl) (pe_lst (pa_cons (pv 1) pa_nil)))
      (pss_cons (ps_set (i := 4) scSteps.nd rfl (.inl rfl) pe_int)
      (pss_cons (ps_while PassesOwn.never (pt_cmpR op_lt (pv 4) (pe_callB call_len_seq (by rfl) ml PySem.boot_len (pa_cons (pv 3) pa_nil)) (nomark _))
        (pss_cons (ps_set (i := 5) scSteps.nd rfl (.inl rfl) (pe_ix ix_list (pv 3) (pv 4) (fun _ _ => rfl)))
        (pss_cons (ps_for PassesOwn.never rfl (pi_list (pe_ix ix_list (pv 0) (pv 5) (fun _ _ => rfl))) (pg_tup rfl (pgs_cons (pg_name (i := 6) scSteps.nd rfl (.inl rfl)) (pgs_cons (pg_name (i := 7) scSteps.nd rfl (.inl rfl)) pgs_nil)))
          (pss_one (ps_if (pt_cmp (pc_dnotin hu (pv 6) (pv 2)))
            (pss_cons (ps_dput hu (pv 2) (pv 6) (pe_op op_add (pe_dget hu (pv 2) (pv 5) (fun _ _ => rfl)) pe_int) rfl)
            (pss_one (ps_expr (pe_bm PySem.F.plainAttrs_list PySem.F.slot_list_append PySem.F.type_list_append mt_append (pv 3) (pa_cons (pv 6) pa_nil))))) pss_nil)))
        (pss_one (ps_aug (i := 4) scSteps.nd rfl (.inl rfl) pe_int ip_add)))))
      (pss_one (ps_ret (pv 2)))))), ?_⟩
    -- steps = {start: 0}; reached = [start]; looked_at = 0
    intro d nd
    refine ⟨_, rfl, upd_same, [((Sum.inl (u : Int) : Key), .int 0)], rfl, (by show 1 ≤ 15; decide), ?_⟩
    have hd0 : (upd (upd H d (.dK [])) d (.dK (mergeK [] [((Sum.inl (u : Int) : Key), .int 0)]))) d = some (.dK ([(u, 0)].map skv)) := upd_same
    have sd : Same H (upd (upd H d (.dK [])) d (.dK (mergeK [] [((Sum.inl (u : Int) : Key), .int 0)]))) := same_put (same_upd nd) nd
    refine ⟨_, rfl, (by show 1 ≤ sizeLine; decide), fun q nq => ?_⟩
    have nq0 : H q = none := sd.free nq
    refine ⟨fun m σ H' => ∃ (S : List (Nat × Nat)) (kk : Nat) (y5 y6 y7 : Option V), σ = [some (.ref a), some (vi u), some (.ref d), some (.ref q), some (vi kk), y5, y6, y7] ∧ Same H H' ∧ H' d = some (.dK (S.map skv)) ∧ H' q = some (.lst ((plc S).map vi)) ∧ Way n ls u S kk ∧ kk + m = n,
      ⟨n, [(u, 0)], 0, none, none, none, rfl, sd.trans (same_upd nq), same_upd nq _ _ hd0, upd_same, Way.init hun, by omega⟩, ?_⟩
    rintro m σ H' ⟨S, kk, y5, y6, y7, rfl, sm, hd, hq, M, em⟩
    have hSn := M.len_le
    have hpl : (plc S).length = S.length := by unfold plc; rw [List.length_map]
    refine ⟨_, rfl, _, rfl, q, _, rfl, .inl (SqL.of hq), _, _, rfl, rfl, _, rfl, ?_⟩
    refine ite2 (fun h1 => ?_) (fun h1 => ?_)
    · have h1 := of_decide_eq_true h1
      rw [List.length_map, hpl] at h1
      have hk : kk < S.length := by omega
      have hx : S[kk]? = some S[kk] := List.getElem?_eq_getElem hk
      have hxm := List.getElem_mem hk
      generalize S[kk] = x at hx hxm
      have hxn : x.1 < n := M.lt _ hxm
      have hpx : (plc S)[kk]? = some x.1 := map_get hx
      refine ⟨fun σ' H2 => ∃ (y5 y6 y7 : Option V), σ' = [some (.ref a), some (vi u), some (.ref d), some (.ref q), some (vi (kk + 1)), y5, y6, y7] ∧ Same H H2 ∧ H2 d = some (.dK ((putAll (x.2 + 1) S (nb ls x.1)).map skv)) ∧ H2 q = some (.lst ((plc (putAll (x.2 + 1) S (nb ls x.1))).map vi)), ?_, ?_⟩
      · rintro σ' H2 ⟨z5, z6, z7, e, sm2, hd2, hq2⟩
        exact ⟨m - 1, by omega, _, kk + 1, z5, z6, z7, e, sm2, hd2, hq2, M.step hls hx, by omega⟩
      · obtain ⟨r, ts, hr', hl, hT⟩ := hTab.get (tab_get ls hxn)
        -- here = reached[looked_at]
        refine ⟨_, rfl, _, rfl, q, _, _, _, rfl, rfl, SqL.of hq, at_of (j := kk) rfl (map_get hpx), ?_⟩
        -- for place, entry in table[here]
        refine ⟨_, rfl, _, rfl, a, _, _, _, rfl, rfl, SqL.of (sm _ _ hTab.lst), at_of (j := x.1) rfl (map_get hr'), r, rfl, ⟨_, SqL.of (sm _ _ hl)⟩, for_list (K := K) (a := r) (xs := ts.map V.ref)
          (fun i σ H2 => ∃ y6 y7 : Option V, σ = [some (.ref a), some (vi u), some (.ref d), some (.ref q), some (vi kk), some (vi x.1), y6, y7] ∧ Same H H2 ∧ H2 d = some (.dK ((putAll (x.2 + 1) S ((nb ls x.1).take i)).map skv)) ∧ H2 q = some (.lst ((plc (putAll (x.2 + 1) S ((nb ls x.1).take i))).map vi)))
          ⟨y6, y7, rfl, sm, hd, hq⟩ (fun i σ H2 _ ⟨_, _, _, s5, _⟩ => SqL.of (s5 _ _ hl)) ?_ ?_⟩
        · rintro i y σ H2 hi ⟨z6, z7, rfl, s2, hd2, hq2⟩
          obtain ⟨t, ht, rfl⟩ := ref_get hi
          obtain ⟨p, hp⟩ := get_of_len hT.1 ht
          have htt := s2 _ _ (hT.2 i t p ht hp)
          have hnb : (nb ls x.1)[i]? = some p.1 := map_get hp
          have hnext : putAll (x.2 + 1) S ((nb ls x.1).take (i + 1)) = putOne (x.2 + 1) (putAll (x.2 + 1) S ((nb ls x.1).take i)) p.1 := by rw [take_snoc hnb, putAll_snoc]
          have hnd := putAll_nodup (c := x.2 + 1) M.nd ((nb ls x.1).take i)
          obtain ⟨mm, epre, hmm⟩ := putAll_pre (x.2 + 1) S ((nb ls x.1).take i)
          generalize putAll (x.2 + 1) S ((nb ls x.1).take i) = T at *
          have hxT : (x.1, x.2) ∈ T := by rw [epre]; exact List.mem_append_left _ hxm
          have hTn : (plc T).length ≤ n := nodup_len n (plc T) hnd fun z hz => by
            obtain ⟨e, he⟩ := mem_plc.mp hz
            rw [epre] at he
            rcases List.mem_append.mp he with w | w
            · exact M.lt _ w
            · exact nb_lt hls (List.mem_of_mem_take (hmm _ w).2)
          have hTl : (plc T).length = T.length := by unfold plc; rw [List.length_map]
          refine ⟨t, _, rfl, SqT.of htt, rfl, _, _, rfl, _, _, rfl, rfl, ?_⟩
          refine ⟨_, rfl, _, rfl, d, _, rfl, DGet.k (k := (Sum.inl (p.1 : Int) : Key)) hd2, _, rfl, ?_⟩
          by_cases hm : p.1 ∈ plc T
          · have e : putOne (x.2 + 1) T p.1 = T := if_pos hm
            obtain ⟨e', he'⟩ := mem_plc.mp hm
            rw [steps_val hnd he']
            refine iteF ?_
            refine ⟨_, _, rfl, s2, ?_, ?_⟩
            · rw [hnext, e]; exact hd2
            · rw [hnext, e]; exact hq2
          · have e : putOne (x.2 + 1) T p.1 = T ++ [(p.1, x.2 + 1)] := if_neg hm
            have hv := steps_none hm
            rw [hv]
            refine iteT ?_
            -- steps[place] = steps[here] + 1
            have g := DGet.k (k := (Sum.inl (x.1 : Int) : Key)) hd2
            rw [steps_val hnd hxT] at g
            refine ⟨_, rfl, _, rfl, d, _, rfl, g, _, _, rfl, rfl, _, rfl, _, rfl, d, _, rfl, DPut.k (k := (Sum.inl (p.1 : Int) : Key)) hd2 ?_, ?_⟩
            · rw [List.length_map]
              exact Nat.lt_of_le_of_lt (show _ ≤ 100 by omega) (by decide)
            · have ndq : q ≠ d := ne_of hq2 hd2 (by intro z; cases z)
              have hq3 : (upd H2 d (.dK (putK (T.map skv) (Sum.inl (p.1 : Int) : Key) (.int ((x.2 : Int) + 1))))) q = some (.lst ((plc T).map vi)) := by rw [upd_ne ndq]; exact hq2
              -- reached.append(place)
              refine ⟨_, rfl, .inl ⟨rfl, _, SqL.of hq3⟩, _, rfl, q, _, _, rfl, rfl, hq3, ?_, ?_⟩
              · rw [List.length_map]
                exact Nat.lt_of_le_of_lt (show _ ≤ 100 by omega) (by decide)
              · refine ⟨_, _, rfl, same_put (same_put s2 nd) nq0, ?_, ?_⟩
                · rw [upd_ne ndq.symm, upd_same, putK_new _ hv, hnext, e, List.map_append]
                  rfl
                · rw [upd_same, hnext, e, plc_snoc, List.map_append]
                  rfl
        · rintro σ H2 ⟨z6, z7, rfl, s2, hd2, hq2⟩
          have el : (ts.map V.ref).length = (nb ls x.1).length := by
            unfold nb
            rw [List.length_map, List.length_map, hT.1]
          rw [el, List.take_length] at hd2 hq2
          exact ⟨_, rfl, _, _, rfl, rfl, _, _, _, rfl, s2, hd2, hq2⟩
    · have h1 : ¬ (kk : Int) < ((((plc S).map vi).length : Nat) : Int) := fun z => h1 (decide_eq_true z)
      rw [List.length_map, hpl] at h1
      have ek : kk = S.length := by
        have := M.le
        omega
      subst ek
      exact ⟨_, rfl, k H' d S sm hd M⟩
/-! ### all_hang_together -/
theorem scHang : FnScope ["table"] ["table"] (defScope sHang) := ⟨rfl, rfl, rfl, by decide +kernel, rfl, by decide +kernel, by decide +kernel⟩
def spHang : Sp := fun vs H Q _ => ∃ (a : Addr) (rs : List Addr) (n : Nat) (ls : List (Nat × Nat)), vs = [.ref a] ∧ TabAt H a rs (tab n ls) ∧ 0 < n ∧ n ≤ 7 ∧ (∀ p ∈ ls, p.1 < n ∧ p.2 < n) ∧ ∀ H' : Hp, Same H H' → Q (.bl (Ks536.joined ⟨n, ls⟩)) H'
/-- a def of the text, as the module's names find it -/
structure Def (K : PySem.W.Frag) (mg : Str → Option Value) (x : Str) (st : Stmt) (ps : List Str) (f : Addr) (fd : FuncData) : Prop where
  F : Fun K x x st f fd
  g : mg x = some (.ref f)
  b : Binds K fd ps []
theorem ok_hang {f f1 : Addr} {fd fd1 : FuncData} (F : Fun K "all_hang_together" "all_hang_together" sHang f fd) (ml : mg "len" = none)
    (D1 : Def K mg "steps_from" sSteps ["table", "start"] f1 fd1) (G1 : FnOk P w K mg base CX0 1 f1 fd1 ["table", "start"] spSteps) : FnOk P w K mg base CX0 2 f fd ["table"] spHang := by
  refine F.ok scHang (fun vs H Q E h => ?_) (fun cdv A outer s H vs Q E hr h => ?_)
  · obtain ⟨a, rs, n, ls, rfl, _⟩ := h
    rfl
  · obtain ⟨a, rs, n, ls, rfl, hTab, hn0, hn7, hls, k⟩ := h
    refine ⟨_, pss_one (ps_ret (pe_cmpR op_eq (pe_callB call_lenD (by rfl) ml PySem.boot_len (pa_cons (pe_call G1 hr rfl D1.g D1.F.kp D1.b .nil pass0 (pa_cons (pv 0) (pa_cons pe_int pa_nil))) pa_nil))
      (pe_callB call_len_seq (by rfl) ml PySem.boot_len (pa_cons (pv 0) pa_nil)) (nomark _))), ?_⟩
    refine ⟨_, rfl, a, rs, n, 0, ls, rfl, hTab, hn0, hn7, hls, fun H' d S sm hd M => ?_⟩
    refine ⟨d, _, rfl, hd, _, rfl, a, _, rfl, .inl (SqL.of (sm _ _ hTab.lst)), rfl, ?_⟩
    have e := k H' sm
    rw [← M.joined hls hn0] at e
    have e2 : decide (V.int (((S.map skv).length : Nat) : Int) = V.int (((rs.map V.ref).length : Nat) : Int)) = decide (S.length = n) := by
      rw [List.length_map, List.length_map, hTab.len, tab_len]
      by_cases h : S.length = n
      · rw [h]; simp
      · rw [decide_eq_false h, decide_eq_false]
        intro z
        injection z with z
        exact h (Int.ofNat.inj z)
    rw [e2]
    exact e
end
end Sw
namespace Sw
open PySem PySem.Spec PyProof.Rows L2
abbrev sNet : Stmt := top 9
section
variable {P : Program} {w : World} {K : PySem.W.Frag} {mg : Str → Option Value} {base : Heap}
/-! ### is_net -/
theorem scNet : FnScope ["n", "net", "links"] ["n", "net"] (defScope sNet) := ⟨rfl, rfl, rfl, by decide +kernel, rfl, by decide +kernel, by decide +kernel⟩
def spNet (K : PySem.W.Frag) : Sp := fun vs H Q _ => ∃ (a : Addr) (n : Nat) (l : List Nat), vs = [vi n, .ref a] ∧ SqL K H a (l.map vi) ∧ l.length ≤ 24 ∧ ∀ H' : Hp, Same H H' → Q (.bl (isNet n l)) H'
theorem ok_net {f f1 f2 f3 f4 : Addr} {fd fd1 fd2 fd3 fd4 : FuncData} {t1 t2 : Tok} (F : Fun K "is_net" "is_net" sNet f fd) (ml : mg "len" = none)
    (c1 : mg "MOST_PLACES" = some (.int 7 t1)) (c2 : mg "MOST_LINKS" = some (.int 10 t2))
    (D1 : Def K mg "links_of" sLinks ["net"] f1 fd1) (G1 : FnOk P w K mg base CX0 1 f1 fd1 ["net"] (spLinks K))
    (D2 : Def K mg "links_are_sound" sSound ["n", "links"] f2 fd2) (G2 : FnOk P w K mg base CX0 1 f2 fd2 ["n", "links"] spSound)
    (D3 : Def K mg "exit_table" sTable ["n", "links"] f3 fd3) (G3 : FnOk P w K mg base CX0 1 f3 fd3 ["n", "links"] spTable)
    (D4 : Def K mg "all_hang_together" sHang ["table"] f4 fd4) (G4 : FnOk P w K mg base CX0 2 f4 fd4 ["table"] spHang) : FnOk P w K mg base CX0 3 f fd ["n", "net"] (spNet K) := by
  refine F.ok scNet (fun vs H Q E h => ?_) (fun cdv A outer s H vs Q E hr h => ?_)
  · obtain ⟨a, n, l, rfl, _⟩ := h
    rfl
  · obtain ⟨a, n, l, rfl, hS, hlen, k⟩ := h
    have hr1 : Room 1 _ := hr.mono (by decide)
    refine ⟨_, pss_cons (ps_if (PW.pt (pw_or (pt_cmpR op_lt (pv 0) pe_int (nomark _)) (pw_or1 (pt_cmpR op_gt (pv 0) (pe_glob (v := .int 7) rfl c1 ⟨_, rfl⟩) (nomark _))))) (pss_one (ps_ret pe_bl)) pss_nil)
      (pss_cons (ps_if (PW.pt (pw_or (pt_cmpR op_eq (pe_op op_mod (pe_callB call_len_seq (by rfl) ml PySem.boot_len (pa_cons (pv 1) pa_nil)) pe_int) pe_int (nomark _))
          (pw_or1 (pt_cmpR op_gt (pe_callB call_len_seq (by rfl) ml PySem.boot_len (pa_cons (pv 1) pa_nil)) (pe_op op_mul pe_int (pe_glob (v := .int 10) rfl c2 ⟨_, rfl⟩)) (nomark _))))) (pss_one (ps_ret pe_bl)) pss_nil)
      (pss_cons (ps_set (i := 2) scNet.nd rfl (.inl rfl) (pe_call G1 hr1 rfl D1.g D1.F.kp D1.b .nil pass0 (pa_cons (pv 1) pa_nil)))
      (pss_cons (ps_if (pt_not (pt_val (pe_call G2 hr1 rfl D2.g D2.F.kp D2.b .nil pass0 (pa_cons (pv 0) (pa_cons (pv 2) pa_nil))))) (pss_one (ps_ret pe_bl)) pss_nil)
      (pss_one (ps_ret (pe_call G4 hr rfl D4.g D4.F.kp D4.b .nil pass0 (pa_cons (pe_call G3 hr1 rfl D3.g D3.F.kp D3.b .nil pass0 (pa_cons (pv 0) (pa_cons (pv 2) pa_nil))) pa_nil))))))), ?_⟩
    have bad : ∀ H2, Same H H2 → ¬ ((1 ≤ n ∧ n ≤ 7) ∧ l.length % 2 = 0 ∧ l.length ≤ 20 ∧ Sound n (pairs l) ∧ Ks536.joined ⟨n, pairs l⟩ = true) → Q (.bl false) H2 := fun H2 s2 hb => by
      have e := k H2 s2
      unfold isNet at e
      rw [netOf_eq, if_neg hb] at e
      exact e
    refine ⟨_, rfl, _, _, rfl, rfl, _, rfl, ?_⟩
    refine ite2 (fun h1 => ?_) (fun h1 => ?_)
    · have h1 := of_decide_eq_true h1
      exact iteT (bad H (Same.refl H) fun z => by have := z.1.1; omega)
    · have h1 : ¬ (n : Int) < 1 := fun z => h1 (decide_eq_true z)
      refine ⟨_, rfl, _, _, rfl, rfl, _, rfl, ?_⟩
      refine ite2 (fun h2 => ?_) (fun h2 => ?_)
      · have h2 := of_decide_eq_true h2
        exact bad H (Same.refl H) fun z => by have := z.1.2; omega
      · have h2 : ¬ (7 : Int) < (n : Int) := fun z => h2 (decide_eq_true z)
        refine ⟨_, rfl, a, _, rfl, .inl hS, _, _, rfl, rfl, (by show (0 : Int) < 2; decide), rfl, _, rfl, ?_⟩
        rw [List.length_map]
        refine ite2 (fun h3 => ?_) (fun h3 => ?_)
        · have h3 := of_decide_eq_true h3
          injection h3 with h3
          exact iteT (bad H (Same.refl H) fun z => by have := z.2.1; omega)
        · have h3 : ¬ ((l.length : Nat) : Int) % 2 = 1 := fun z => h3 (decide_eq_true (congrArg V.int z))
          refine ⟨_, rfl, a, _, rfl, .inl hS, _, _, rfl, rfl, .inl ⟨by decide, by decide⟩, _, _, rfl, rfl, _, rfl, ?_⟩
          rw [List.length_map]
          refine ite2 (fun h4 => ?_) (fun h4 => ?_)
          · have h4 := of_decide_eq_true h4
            exact bad H (Same.refl H) fun z => by have := z.2.2.1; omega
          · have h4 : ¬ (2 * 10 : Int) < ((l.length : Nat) : Int) := fun z => h4 (decide_eq_true z)
            have hev : l.length % 2 = 0 := by omega
            have hl20 : l.length ≤ 20 := by omega
            have hpl := pairs_len l
            -- links = links_of(net)
            refine ⟨_, rfl, a, l, rfl, hS, hlen, hev, fun H1 q s1 nq hP => ?_⟩
            -- links_are_sound
            refine ⟨_, rfl, _, rfl, q, n, pairs l, rfl, hP, by omega, fun H2 s2 => ⟨_, rfl, ?_⟩⟩
            by_cases hso : Sound n (pairs l)
            · rw [decide_eq_true hso]
              refine iteF ?_
              have hls : ∀ p ∈ pairs l, p.1 < n ∧ p.2 < n := fun p hp => ⟨(hso.1 p hp).1, (hso.1 p hp).2.1⟩
              refine ⟨_, rfl, _, rfl, q, n, pairs l, rfl, hP.same s2, by omega, by omega, hso.1, fun H3 t rs s3 nt hTab => ?_⟩
              refine ⟨t, rs, n, pairs l, rfl, hTab, by omega, by omega, hls, fun H4 s4 => ?_⟩
              have e := k H4 (((s1.trans s2).trans s3).trans s4)
              have e2 : isNet n l = Ks536.joined ⟨n, pairs l⟩ := by
                unfold isNet
                rw [netOf_eq]
                by_cases hj : Ks536.joined ⟨n, pairs l⟩ = true
                · rw [if_pos ⟨⟨by omega, by omega⟩, hev, hl20, hso, hj⟩, hj]
                  rfl
                · rw [if_neg fun z => hj z.2.2.2.2]
                  rw [Bool.not_eq_true] at hj
                  rw [hj]
                  rfl
              rw [e2] at e
              exact e
            · rw [decide_eq_false hso]
              refine iteT ?_
              exact bad H2 (s1.trans s2) fun z => hso z.2.2.2.1
end
end Sw
namespace Sw
open PySem PySem.Spec PyProof.Rows L2
abbrev sLeastW : Stmt := top 10
section
variable {P : Program} {w : World} {K : PySem.W.Frag} {mg : Str → Option Value} {base : Heap}
/-! ### least_with_the_same -/
theorem room65 {k : Nat} {A : Around} (r : Room k A) : A.units + 65 < cLine := by have := r.un; omega
theorem scLeastW : FnScope ["sights", "sight"] ["sights"] (defScope sLeastW) := ⟨rfl, rfl, rfl, by decide +kernel, rfl, by decide +kernel, by decide +kernel⟩
def spLeastW (K : PySem.W.Frag) : Sp := fun vs H Q _ => ∃ (α : Type) (_ : DecidableEq α) (f : α → PyData) (d : Nat) (a : Addr) (xs : List V) (l : List α), vs = [.ref a] ∧ Dat f d ∧ d ≤ 10 ∧ SqL K H a xs ∧ DpAll K H xs (l.map f) ∧ l.length ≤ 24 ∧
  ∀ (H' : Hp) (p : Addr), Same H H' → H p = none → H' p = some (.lst ((firsts l).map vi)) → Q (.ref p) H'
theorem ok_leastW {f : Addr} {fd : FuncData} (F : Fun K "least_with_the_same" "least_with_the_same" sLeastW f fd) : FnOk P w K mg base CX0 1 f fd ["sights"] (spLeastW K) := by
  refine F.ok scLeastW (fun vs H Q E h => ?_) (fun cdv A outer s H vs Q E hr h => ?_)
  · obtain ⟨α, _, f, d, a, xs, l, rfl, _⟩ := h
    rfl
  · obtain ⟨α, _, f, d, a, xs, l, rfl, hD, hd, hS, hA, hlen, k⟩ := h
    have hu := room65 hr
    refine ⟨_, pss_one (ps_ret (pe_lc (own := [("sight", 1)]) (g := gName 1) (tt := tYes) (te := tBM K "list" (rIndexD K) (tVar 0) (tCons (tVar 1) tNil)) rfl scLeastW.nd (pi_list (pv 0))
      (blkOk_by (own := [("sight", 1)]) (N := ["sights", "sight"]) (sc := defScope sLeastW) (by decide +kernel))
      (fun _ _ _ _ _ => pg_name (i := 1) scLeastW.nd rfl (Or.inl rfl)) (fun _ _ _ _ _ => pts_nil)
      (fun _ _ _ _ _ => pe_bm PySem.F.plainAttrs_list PySem.F.slot_list_index PySem.F.type_list_index (mt_indexD hu) (pv 0) (pa_cons (pv 1) pa_nil)))), ?_⟩
    have hxl : xs.length = l.length := by rw [dp_len hA, List.length_map]
    refine ⟨_, rfl, a, rfl, ⟨_, hS⟩, fun D nD => ?_⟩
    refine lc_list (K := K) (a := a) (xs := xs) (fun i H' => Same H H' ∧ H' D = some (.lst (((firsts l).take i).map vi)))
      ⟨same_upd nD, upd_same⟩ (fun i H' _ h => h.1.seq hS) (fun i y H' hi h => ?_) (fun H' h => ?_)
    · obtain ⟨sm, h1⟩ := h
      obtain ⟨x, hx⟩ := get_of_len hxl hi
      have hA' := dp_same_all sm _ _ hA
      have hlt := (List.getElem?_eq_some_iff.mp hx).1
      have hmem : ∃ z, z ∈ l ∧ decide (z = x) = true := ⟨x, List.mem_of_getElem? hx, decide_eq_true rfl⟩
      have hj : l.findIdx (fun y => decide (y = x)) < l.length := List.findIdx_lt_length_of_exists hmem
      refine ⟨rfl, ?_⟩
      dsimp only [tYes]
      rw [if_pos rfl]
      refine ⟨_, rfl, .inl ⟨rfl, _, sm.seq hS⟩, _, rfl, a, y, f x, l.map f, l.findIdx (fun y => decide (y = x)), f l[l.findIdx (fun y => decide (y = x))], rfl, rfl, .lst (sm.seq hS) hA', dp_get hA' hi (map_get hx), ?_, hD.shaped (by omega) x, map_get (List.getElem?_eq_getElem hj), ?_, ?_, ?_⟩
      · exact hD.list.shaped (by omega) l
      · rw [hD.eqv]
        exact List.findIdx_getElem (p := fun y => decide (y = x)) (w := hj)
      · intro m z' hm hz
        rw [List.getElem?_map] at hz
        obtain ⟨z, hz2, rfl⟩ := Option.map_eq_some_iff.mp hz
        rw [hD.eqv]
        have := List.not_of_lt_findIdx hm
        have e : l[m]'(by omega) = z := (List.getElem?_eq_some_iff.mp hz2).2
        rw [e] at this
        simpa using this
      · refine ⟨_, h1, ?_, same_put sm nD, ?_⟩
        · rw [List.length_map, List.length_take, firsts_len]
          exact Nat.lt_of_le_of_lt (show _ ≤ 100 by omega) (by decide)
        · rw [upd_same, take_snoc (firsts_get hx), List.map_append]
          rfl
    · obtain ⟨sm, h1⟩ := h
      rw [hxl, ← firsts_len l, List.take_length] at h1
      exact k H' D sm nD h1
end
end Sw
namespace Sw
open PySem PySem.Spec PyProof.Rows L2
abbrev sOnce : Stmt := top 11
abbrev sStep : Stmt := top 12
theorem rowB_get {n u : Nat} (B : Exs) (h : u < n) : ((List.range n).map B)[u]? = some (B u) := by
  rw [List.getElem?_map, List.getElem?_range h]; rfl
section
variable {P : Program} {w : World} {K : PySem.W.Frag} {mg : Str → Option Value} {base : Heap}
/-! ### groups_at_once -/
theorem scOnce : FnScope ["table", "own_exits"] ["table"] (defScope sOnce) := ⟨rfl, rfl, rfl, by decide +kernel, rfl, by decide +kernel, by decide +kernel⟩
def spOnce : Sp := fun vs H Q _ => ∃ (a : Addr) (rs : List Addr) (n : Nat) (B : Exs), vs = [.ref a] ∧ RowsAt H a rs ((List.range n).map B) ∧ n ≤ 14 ∧
  ∀ (H' : Hp) (p : Addr), Same H H' → H p = none → H' p = some (.lst ((grps B n 0).map vi)) → Q (.ref p) H'
theorem ok_once {f f1 : Addr} {fd fd1 : FuncData} (F : Fun K "groups_at_once" "groups_at_once" sOnce f fd) (ml : mg "len" = none)
    (D1 : Def K mg "least_with_the_same" sLeastW ["sights"] f1 fd1) (G1 : FnOk P w K mg base CX0 1 f1 fd1 ["sights"] (spLeastW K)) : FnOk P w K mg base CX0 2 f fd ["table"] spOnce := by
  refine F.ok scOnce (fun vs H Q E h => ?_) (fun cdv A outer s H vs Q E hr h => ?_)
  · obtain ⟨a, rs, n, B, rfl, _⟩ := h
    rfl
  · obtain ⟨a, rs, n, B, rfl, hTab, hn, k⟩ := h
    refine ⟨_, pss_one (ps_ret (pe_call G1 hr rfl D1.g D1.F.kp D1.b .nil pass0 (pa_cons (pe_lc (own := [("own_exits", 1)]) (g := gName 1) (tt := tYes)
      (te := tCB (fun xs H Q => ∃ p ys, xs = [.ref p] ∧ (SqL K H p ys ∨ SqT K H p ys) ∧ Q (.int ys.length) H) (tCons (tVar 1) tNil)) rfl scOnce.nd (pi_list (pv 0))
      (blkOk_by (own := [("own_exits", 1)]) (N := ["table", "own_exits"]) (sc := defScope sOnce) (by decide +kernel))
      (fun _ _ _ _ _ => pg_name (i := 1) scOnce.nd rfl (Or.inl rfl)) (fun _ _ _ _ _ => pts_nil)
      (fun _ _ _ _ _ => pe_callB call_len_seq (by rfl) ml PySem.boot_len (pa_cons (pv 1) pa_nil))) pa_nil))), ?_⟩
    refine ⟨_, rfl, a, rfl, ⟨_, SqL.of hTab.lst⟩, fun D nD => ?_⟩
    have hrl : rs.length = n := by rw [hTab.len, List.length_map, List.length_range]
    have hdl : ((List.range n).map fun u => (B u).length).length = n := by rw [List.length_map, List.length_range]
    refine lc_list (K := K) (a := a) (xs := rs.map V.ref) (fun i H' => Same H H' ∧ H' D = some (.lst ((((List.range n).map fun u => (B u).length).take i).map vi)))
      ⟨same_upd nD, upd_same⟩ (fun i H' _ h => SqL.of (h.1 _ _ hTab.lst)) (fun i y H' hi h => ?_) (fun H' h => ?_)
    · obtain ⟨sm, h1⟩ := h
      obtain ⟨r, hr', rfl⟩ := ref_get hi
      have hin : i < n := by
        have := (List.getElem?_eq_some_iff.mp hr').1
        omega
      obtain ⟨r', ts, hr2, hl, hT⟩ := hTab.get (rowB_get B hin)
      rw [hr'] at hr2
      cases hr2
      refine ⟨rfl, ?_⟩
      dsimp only [tYes]
      rw [if_pos rfl]
      refine ⟨_, rfl, r, _, rfl, .inl (SqL.of (sm _ _ hl)), ?_⟩
      refine ⟨_, h1, ?_, same_put sm nD, ?_⟩
      · rw [List.length_map, List.length_take, hdl]
        exact Nat.lt_of_le_of_lt (show _ ≤ 100 by omega) (by decide)
      · have hg : ((List.range n).map fun u => (B u).length)[i]? = some (B i).length := map_get (List.getElem?_range hin)
        rw [upd_same, take_snoc hg, List.map_append, List.length_map, hT.1]
        rfl
    · obtain ⟨sm, h1⟩ := h
      rw [List.length_map, hrl, List.take_of_length_le (Nat.le_of_eq hdl)] at h1
      refine ⟨Nat, inferInstance, nd, 1, D, _, (List.range n).map fun u => (B u).length, rfl, dat_nd, by decide, SqL.of h1, dp_nums _, by rw [hdl]; omega, fun H2 p s2 np h2 => ?_⟩
      rw [firsts_zero] at h2
      exact k H2 p (sm.trans s2) (sm.free np) h2
/-! ### groups_one_step_on -/
theorem scStep : FnScope ["table", "groups", "sights", "own_exits", "place", "entry"] ["table", "groups"] (defScope sStep) := ⟨rfl, rfl, rfl, by decide +kernel, rfl, by decide +kernel, by decide +kernel⟩
def spStep : Sp := fun vs H Q _ => ∃ (a b : Addr) (rs : List Addr) (n k : Nat) (B : Exs), vs = [.ref a, .ref b] ∧ RowsAt H a rs ((List.range n).map B) ∧ n ≤ 14 ∧ (∀ u, u < n → (B u).length ≤ 24) ∧ Within B n ∧ H b = some (.lst ((grps B n k).map vi)) ∧
  ∀ (H' : Hp) (p : Addr), Same H H' → H p = none → H' p = some (.lst ((grps B n (k + 1)).map vi)) → Q (.ref p) H'
theorem RowsAt.dp {K : PySem.W.Frag} {H : Hp} {q : Addr} {qs : List Addr} {R : List (List (Nat × Nat))} (h : RowsAt H q qs R) : DpAll K H (qs.map V.ref) (R.map rd) := by
  refine dp_of (by rw [List.length_map, List.length_map, h.len]) fun i v d hv hd => ?_
  obtain ⟨r, hr, rfl⟩ := ref_get hv
  rw [List.getElem?_map] at hd
  obtain ⟨es, he, rfl⟩ := Option.map_eq_some_iff.mp hd
  exact dp_row (h.row i r es hr he)
theorem ok_step {f f1 : Addr} {fd fd1 : FuncData} (F : Fun K "groups_one_step_on" "groups_one_step_on" sStep f fd)
    (D1 : Def K mg "least_with_the_same" sLeastW ["sights"] f1 fd1) (G1 : FnOk P w K mg base CX0 1 f1 fd1 ["sights"] (spLeastW K)) : FnOk P w K mg base CX0 2 f fd ["table", "groups"] spStep := by
  refine F.ok scStep (fun vs H Q E h => ?_) (fun cdv A outer s H vs Q E hr h => ?_)
  · obtain ⟨a, b, rs, n, k, B, rfl, _⟩ := h
    rfl
  · obtain ⟨a, b, rs, n, kk, B, rfl, hTab, hn, hlen, hW, hb, k⟩ := h
    refine ⟨_, pss_cons (ps_set (i := 2) scStep.nd rfl (.inl rfl) (pe_lst pa_nil))
      (pss_cons (ps_for PassesOwn.never rfl (pi_list (pv 0)) (pg_name (i := 3) scStep.nd rfl (.inl rfl))
        (pss_one (ps_expr (pe_bm PySem.F.plainAttrs_list PySem.F.slot_list_append PySem.F.type_list_append mt_append (pv 2) (pa_cons
          (pe_lc (own := [("place", 4), ("entry", 5)]) (g := gTup K 2 (gCons (gName 4) (gCons (gName 5) gNil))) (tt := tYes) rfl scStep.nd (pi_list (pv 3))
            (blkOk_by (own := [("place", 4), ("entry", 5)]) (N := ["table", "groups", "sights", "own_exits", "place", "entry"]) (sc := defScope sStep) (by decide +kernel))
            (fun _ _ _ _ _ => pg_tup rfl (pgs_cons (pg_name (i := 4) scStep.nd rfl (.inl rfl)) (pgs_cons (pg_name (i := 5) scStep.nd rfl (.inl rfl)) pgs_nil))) (fun _ _ _ _ _ => pts_nil)
            (fun _ _ _ _ _ => pe_tup (pa_cons (pv 5) (pa_cons (pe_ix (ix_list : IxR _ (rIxL K)) (pv 1) (pv 4) (fun _ _ => rfl)) pa_nil)))) pa_nil)))))
      (pss_one (ps_ret (pe_call G1 hr rfl D1.g D1.F.kp D1.b .nil pass0 (pa_cons (pv 2) pa_nil))))), ?_⟩
    have hrl : rs.length = n := by rw [hTab.len, List.length_map, List.length_range]
    -- sights = []
    refine ⟨(by show 0 ≤ sizeLine; decide), fun q nq => ?_⟩
    refine ⟨_, rfl, a, rfl, ⟨_, SqL.of (same_upd nq _ _ hTab.lst)⟩, for_list (K := K) (a := a) (xs := rs.map V.ref)
      (fun i σ H' => ∃ (y3 y4 y5 : Option V) (qs : List Addr), σ = [some (.ref a), some (.ref b), some (.ref q), y3, y4, y5] ∧ Same H H' ∧ RowsAt H' q qs (((List.range n).map fun u => sg (grp B n kk) (B u)).take i))
      ⟨none, none, none, [], rfl, same_upd nq, ⟨upd_same, by simp, rfl, fun i r es h => by simp at h⟩⟩ (fun i σ H' _ ⟨_, _, _, _, _, s5, _⟩ => SqL.of (s5 _ _ hTab.lst)) ?_ ?_⟩
    · rintro i y σ H' hi ⟨y3, y4, y5, qs, rfl, sm, hR⟩
      obtain ⟨r, hr', rfl⟩ := ref_get hi
      have hin : i < n := by
        have := (List.getElem?_eq_some_iff.mp hr').1
        omega
      obtain ⟨r', ts, hr2, hl, hT⟩ := hTab.get (rowB_get B hin)
      rw [hr'] at hr2
      cases hr2
      have hel := hlen i hin
      have hsl : (sg (grp B n kk) (B i)).length = (B i).length := by
        unfold sg
        rw [List.length_map]
      refine ⟨_, rfl, .inl ⟨rfl, _, SqL.of hR.lst⟩, ?_⟩
      refine ⟨_, rfl, r, rfl, ⟨_, SqL.of (sm _ _ hl)⟩, fun D nD => ?_⟩
      have hqD : q ≠ D := ne_of_none hR.lst nD
      refine lc_list (K := K) (a := r) (xs := ts.map V.ref) (fun j H2 => ∃ us : List Addr, H2 D = some (.lst (us.map V.ref)) ∧ Tups H2 us ((sg (grp B n kk) (B i)).take j) ∧ Same H' H2)
        ⟨[], upd_same, Tups.nil, same_upd nD⟩ (fun j H2 _ h => ?_) (fun j y H2 hj h => ?_) (fun H2 h => ?_)
      · obtain ⟨us, _, _, s2⟩ := h
        exact SqL.of (s2 _ _ (sm _ _ hl))
      · obtain ⟨us, h1, h2, s2⟩ := h
        obtain ⟨t, ht, rfl⟩ := ref_get hj
        obtain ⟨p, hp⟩ := get_of_len hT.1 ht
        have htt := s2 _ _ (sm _ _ (hT.2 j t p ht hp))
        have hpn : p.1 < n := hW i hin p (List.mem_of_getElem? hp)
        have hb2 := s2 _ _ (sm _ _ hb)
        refine ⟨t, _, rfl, SqT.of htt, rfl, _, _, rfl, _, _, rfl, rfl, rfl, ?_⟩
        dsimp only [tYes]
        rw [if_pos rfl]
        refine ⟨_, rfl, _, rfl, _, rfl, b, _, _, _, rfl, rfl, SqL.of hb2, at_of (j := p.1) rfl (map_get (grps_get hpn)), ?_⟩
        refine ⟨(by show 2 ≤ sizeLine; decide), fun t2 nt2 => ?_⟩
        have nDt : D ≠ t2 := ne_of_none h1 nt2
        have hsg : (sg (grp B n kk) (B i))[j]? = some (p.2, grp B n kk p.1) := map_get hp
        refine ⟨_, by rw [upd_ne nDt]; exact h1, ?_, us ++ [t2], by rw [upd_same, List.map_append]; rfl, ?_, ?_⟩
        · rw [List.length_map, h2.1, List.length_take]
          exact Nat.lt_of_le_of_lt (show _ ≤ 100 by omega) (by decide)
        · rw [take_snoc hsg]
          have ht2 : (upd H2 t2 (.tup [vi p.2, vi (grp B n kk p.1)])) t2 = some (.tup [vi p.2, vi (grp B n kk p.1)]) := upd_same
          refine Tups.mono (Tups.snoc (p := (p.2, grp B n kk p.1)) (h2.same (same_upd nt2)) ht2) fun q x y e => ?_
          rw [upd_ne (ne_of e (by rw [upd_ne nDt]; exact h1) (by intro z; cases z))]
          exact e
        · exact same_put (s2.trans (same_upd nt2)) nD
      · obtain ⟨us, h1, h2, s2⟩ := h
        rw [List.length_map, hT.1, ← hsl, List.take_length] at h2
        have hR2 := hR.same s2
        refine ⟨q, _, _, rfl, rfl, hR2.lst, ?_, ?_⟩
        · rw [List.length_map, hR.len, List.length_take, List.length_map, List.length_range]
          exact Nat.lt_of_le_of_lt (show _ ≤ 100 by omega) (by decide)
        · have hg : ((List.range n).map fun u => sg (grp B n kk) (B u))[i]? = some (sg (grp B n kk) (B i)) := map_get (List.getElem?_range hin)
          refine ⟨_, _, _, qs ++ [D], rfl, same_put (sm.trans s2) nq, ?_⟩
          rw [take_snoc hg]
          have := hR2.snoc hqD ⟨us, h1, h2⟩
          rw [List.map_append] at this
          exact this
    · rintro σ H' ⟨y3, y4, y5, qs, rfl, sm, hR⟩
      rw [List.length_map, hrl, List.take_of_length_le (by rw [List.length_map, List.length_range]; omega)] at hR
      refine ⟨_, rfl, List (Nat × Nat), inferInstance, rd, 3, q, _, (List.range n).map fun u => sg (grp B n kk) (B u), rfl, dat_rd, by decide, SqL.of hR.lst, hR.dp, by rw [List.length_map, List.length_range]; omega, fun H2 p s2 np h2 => ?_⟩
      rw [firsts_succ hW] at h2
      exact k H2 p (sm.trans s2) (sm.free np) h2
end
end Sw
namespace Sw
open PySem PySem.Spec PyProof.Rows L2
abbrev sBy : Stmt := top 13
/-- the groups in 0 steps, in 1 step and so on stand at q -/
structure GrpsAt (H : Hp) (q : Addr) (gs : List Addr) (B : Exs) (n : Nat) : Prop where
  lst : H q = some (.lst (gs.map V.ref))
  out : ¬ q ∈ gs
  row : ∀ (i : Nat) (g : Addr), gs[i]? = some g → H g = some (.lst ((grps B n i).map vi))
theorem GrpsAt.same {H H' : Hp} {q : Addr} {gs : List Addr} {B : Exs} {n : Nat} (h : GrpsAt H q gs B n) (s : Same H H') : GrpsAt H' q gs B n := ⟨s _ _ h.lst, h.out, fun i g e => s _ _ (h.row i g e)⟩
theorem GrpsAt.snoc {H : Hp} {q g : Addr} {gs : List Addr} {B : Exs} {n : Nat} (h : GrpsAt H q gs B n) (hg : H g = some (.lst ((grps B n gs.length).map vi))) (hq : q ≠ g) : GrpsAt (upd H q (.lst ((gs ++ [g]).map V.ref))) q (gs ++ [g]) B n := by
  refine ⟨upd_same, fun m => ?_, fun i g' e => ?_⟩
  · rcases List.mem_append.mp m with z | z
    · exact h.out z
    · exact hq (List.mem_singleton.mp z)
  · by_cases hi : i < gs.length
    · rw [List.getElem?_append_left hi] at e
      rw [upd_ne (show g' ≠ q from fun z => h.out (z ▸ List.mem_of_getElem? e))]
      exact h.row i g' e
    · rw [List.getElem?_append_right (by omega)] at e
      have e0 : i - gs.length = 0 := by
        have := (List.getElem?_eq_some_iff.mp e).1
        simp at this
        omega
      have ei : i = gs.length := by omega
      rw [e0] at e
      cases e
      rw [upd_ne hq.symm, ei]
      exact hg
theorem GrpsAt.last {H : Hp} {q g : Addr} {gs : List Addr} {B : Exs} {n : Nat} (h : GrpsAt H q (gs ++ [g]) B n) : H g = some (.lst ((grps B n gs.length).map vi)) := h.row gs.length g (by rw [List.getElem?_append_right (Nat.le_refl _), Nat.sub_self]; rfl)
theorem last_at (gs : List Addr) (g : Addr) : atI ((gs ++ [g]).map V.ref) (-1) = some (.ref g) := by
  rw [List.map_append]
  exact atI_last _ _
section
variable {P : Program} {w : World} {K : PySem.W.Frag} {mg : Str → Option Value} {base : Heap}
/-! ### groups_by_steps -/
theorem scBy : FnScope ["table", "told", "finer"] ["table"] (defScope sBy) := ⟨rfl, rfl, rfl, by decide +kernel, rfl, by decide +kernel, by decide +kernel⟩
def spBy : Sp := fun vs H Q _ => ∃ (a : Addr) (rs : List Addr) (n : Nat) (B : Exs), vs = [.ref a] ∧ RowsAt H a rs ((List.range n).map B) ∧ 0 < n ∧ n ≤ 14 ∧ (∀ u, u < n → (B u).length ≤ 24) ∧ Within B n ∧
  ∀ (H' : Hp) (q g : Addr) (gs : List Addr), Same H H' → GrpsAt H' q (gs ++ [g]) B n → Still B n gs.length → Q (.ref q) H'
theorem ok_by {f f1 f2 : Addr} {fd fd1 fd2 : FuncData} (F : Fun K "groups_by_steps" "groups_by_steps" sBy f fd)
    (D1 : Def K mg "groups_at_once" sOnce ["table"] f1 fd1) (G1 : FnOk P w K mg base CX0 2 f1 fd1 ["table"] spOnce)
    (D2 : Def K mg "groups_one_step_on" sStep ["table", "groups"] f2 fd2) (G2 : FnOk P w K mg base CX0 2 f2 fd2 ["table", "groups"] spStep) : FnOk P w K mg base CX0 3 f fd ["table"] spBy := by
  refine F.ok scBy (fun vs H Q E h => ?_) (fun cdv A outer s H vs Q E hr h => ?_)
  · obtain ⟨a, rs, n, B, rfl, _⟩ := h
    rfl
  · obtain ⟨a, rs, n, B, rfl, hTab, hn0, hn, hlen, hW, k⟩ := h
    refine ⟨_, pss_cons (ps_set (i := 1) scBy.nd rfl (.inl rfl) (pe_lst (pa_cons (pe_call G1 hr rfl D1.g D1.F.kp D1.b .nil pass0 (pa_cons (pv 0) pa_nil)) pa_nil)))
      (pss_cons (ps_set (i := 2) scBy.nd rfl (.inl rfl) (pe_call G2 hr rfl D2.g D2.F.kp D2.b .nil pass0 (pa_cons (pv 0) (pa_cons (pe_ix ix_list (pv 1) pe_int (fun _ _ => rfl)) pa_nil))))
      (pss_cons (ps_while PassesOwn.never (pt_cmpR (op_neD hr.units) (pv 2) (pe_ix ix_list (pv 1) (pe_un un_neg pe_int) (fun _ _ => rfl)) (nomark _))
        (pss_cons (ps_expr (pe_bm PySem.F.plainAttrs_list PySem.F.slot_list_append PySem.F.type_list_append mt_append (pv 1) (pa_cons (pv 2) pa_nil)))
        (pss_one (ps_set (i := 2) scBy.nd rfl (.inl rfl) (pe_call G2 hr rfl D2.g D2.F.kp D2.b .nil pass0 (pa_cons (pv 0) (pa_cons (pv 2) pa_nil)))))))
      (pss_one (ps_ret (pv 1))))), ?_⟩
    -- told = [groups_at_once(table)]
    refine ⟨_, rfl, a, rs, n, B, rfl, hTab, hn, fun H1 g s1 ng hg => ⟨(by show 1 ≤ sizeLine; decide), fun q nq => ?_⟩⟩
    have hqg : q ≠ g := (ne_of_none hg nq).symm
    have nq0 : H q = none := s1.free nq
    have hG0 : GrpsAt (upd H1 q (.lst [.ref g])) q ([] ++ [g]) B n := by
      refine ⟨upd_same, fun m => hqg (List.mem_singleton.mp m), fun i g' e => ?_⟩
      have ei : i = 0 := by
        have := (List.getElem?_eq_some_iff.mp e).1
        simp at this
        omega
      subst ei
      cases e
      rw [upd_ne hqg.symm]
      exact hg
    have s2 := s1.trans (same_upd (o := .lst [.ref g]) nq)
    -- finer = groups_one_step_on(table, told[0])
    refine ⟨_, rfl, _, rfl, q, _, _, _, rfl, rfl, SqL.of upd_same, at_of (j := 0) rfl rfl, a, g, rs, n, 0, B, rfl, hTab.same s2, hn, hlen, hW, hG0.row 0 g rfl, fun H3 fi s3 nf hf => ?_⟩
    -- while finer != told[-1]
    refine ⟨fun m σ H' => ∃ (kk : Nat) (fi g : Addr) (gs : List Addr), σ = [some (.ref a), some (.ref q), some (.ref fi)] ∧ Same H H' ∧ GrpsAt H' q (gs ++ [g]) B n ∧ gs.length = kk ∧ q ≠ fi ∧ H' fi = some (.lst ((grps B n (kk + 1)).map vi)) ∧ (∀ j, j < kk → ¬ Still B n j) ∧ kk + m = n,
      ⟨n, 0, fi, g, [], rfl, s2.trans s3, hG0.same s3, rfl, ne_of_none upd_same nf, hf, fun j hj => absurd hj (Nat.not_lt_zero _), by omega⟩, ?_⟩
    rintro m σ H' ⟨kk, fi, g, gs, rfl, sm, hG, hl, hqf, hf, hst, em⟩
    have hlast := hG.last
    rw [hl] at hlast
    refine ⟨_, rfl, _, rfl, _, rfl, q, _, _, _, rfl, rfl, SqL.of hG.lst, last_at gs g, ?_⟩
    refine ⟨.list ((grps B n (kk + 1)).map nd), .list ((grps B n kk).map nd), .lst (SqL.of hf) (dp_nums _), .lst (SqL.of hlast) (dp_nums _), dat_nd.list.shaped (by decide) _, dat_nd.list.shaped (by decide) _, _, rfl, ?_⟩
    have e : PyData.eqv (.list ((grps B n (kk + 1)).map nd)) (.list ((grps B n kk).map nd)) = decide (grps B n (kk + 1) = grps B n kk) := dat_nd.list.eqv _ _
    rw [e]
    have hkn := moving_lt (E := B) (n := n) hn0 hst
    by_cases hS : grps B n (kk + 1) = grps B n kk
    · rw [decide_eq_true hS]
      refine iteF ?_
      refine ⟨_, rfl, k H' q g gs sm hG ?_⟩
      rw [hl]
      exact grps_still.mp hS
    · rw [decide_eq_false hS]
      refine iteT ?_
      have ns : ¬ Still B n kk := fun z => hS (grps_still.mpr z)
      refine ⟨fun σ' H2 => ∃ (fi g : Addr) (gs : List Addr), σ' = [some (.ref a), some (.ref q), some (.ref fi)] ∧ Same H H2 ∧ GrpsAt H2 q (gs ++ [g]) B n ∧ gs.length = kk + 1 ∧ q ≠ fi ∧ H2 fi = some (.lst ((grps B n (kk + 1 + 1)).map vi)), ?_, ?_⟩
      · rintro σ' H2 ⟨fi2, g2, gs2, e, sm2, hG2, hl2, hqf2, hf2⟩
        refine ⟨m - 1, by omega, kk + 1, fi2, g2, gs2, e, sm2, hG2, hl2, hqf2, hf2, fun j hj => ?_, by omega⟩
        by_cases e : j = kk
        · subst e; exact ns
        · exact hst j (by omega)
      · have hl1 : (gs ++ [g]).length = kk + 1 := by rw [List.length_append, hl]; rfl
        have hG3 := hG.snoc (g := fi) (by rw [hl1]; exact hf) hqf
        have s4 := same_put (o := .lst ((gs ++ [g] ++ [fi]).map V.ref)) sm nq0
        have hf3 : (upd H' q (.lst ((gs ++ [g] ++ [fi]).map V.ref))) fi = some (.lst ((grps B n (kk + 1)).map vi)) := by rw [upd_ne hqf.symm]; exact hf
        have em' : (gs ++ [g] ++ [fi]).map V.ref = (gs ++ [g]).map V.ref ++ [.ref fi] := List.map_append
        rw [em'] at hG3 s4 hf3
        -- told.append(finer)
        refine ⟨_, rfl, .inl ⟨rfl, _, SqL.of hG.lst⟩, _, rfl, q, _, _, rfl, rfl, hG.lst, ?_, ?_⟩
        · rw [List.length_map, hl1]
          exact Nat.lt_of_le_of_lt (show _ ≤ 100 by omega) (by decide)
        · -- finer = groups_one_step_on(table, finer)
          refine ⟨_, rfl, _, rfl, a, fi, rs, n, kk + 1, B, rfl, hTab.same s4, hn, hlen, hW, hf3, fun H5 p s5 np hp => ?_⟩
          exact ⟨p, fi, gs ++ [g], rfl, s4.trans s5, hG3.same s5, hl1, ne_of_none hG3.lst np, hp⟩
end
end Sw
namespace Sw
open PySem PySem.Spec PyProof.Rows L2
abbrev sCls : Stmt := top 14
section
variable {P : Program} {w : World} {K : PySem.W.Frag} {mg : Str → Option Value} {base : Heap}
/-! ### class_of_each -/
theorem scCls : FnScope ["table"] ["table"] (defScope sCls) := ⟨rfl, rfl, rfl, by decide +kernel, rfl, by decide +kernel, by decide +kernel⟩
def spCls : Sp := fun vs H Q _ => ∃ (a : Addr) (rs : List Addr) (n : Nat) (B : Exs), vs = [.ref a] ∧ RowsAt H a rs ((List.range n).map B) ∧ 0 < n ∧ n ≤ 14 ∧ (∀ u, u < n → (B u).length ≤ 24) ∧ Within B n ∧
  ∀ (H' : Hp) (p : Addr), Same H H' → H' p = some (.lst (((List.range n).map (cls B n)).map vi)) → Q (.ref p) H'
theorem ok_cls {f f1 : Addr} {fd fd1 : FuncData} (F : Fun K "class_of_each" "class_of_each" sCls f fd)
    (D1 : Def K mg "groups_by_steps" sBy ["table"] f1 fd1) (G1 : FnOk P w K mg base CX0 3 f1 fd1 ["table"] spBy) : FnOk P w K mg base CX0 4 f fd ["table"] spCls := by
  refine F.ok scCls (fun vs H Q E h => ?_) (fun cdv A outer s H vs Q E hr h => ?_)
  · obtain ⟨a, rs, n, B, rfl, _⟩ := h
    rfl
  · obtain ⟨a, rs, n, B, rfl, hTab, hn0, hn, hlen, hW, k⟩ := h
    refine ⟨_, pss_one (ps_ret (pe_ix ix_list (pe_call G1 hr rfl D1.g D1.F.kp D1.b .nil pass0 (pa_cons (pv 0) pa_nil)) (pe_un un_neg pe_int) (fun _ _ => rfl))), ?_⟩
    refine ⟨_, rfl, a, rs, n, B, rfl, hTab, hn0, hn, hlen, hW, fun H1 q g gs s1 hG hS => ?_⟩
    refine ⟨_, rfl, q, _, _, _, rfl, rfl, SqL.of hG.lst, last_at gs g, k H1 g s1 ?_⟩
    rw [← grps_cls hW hS]
    exact hG.last
end
end Sw
namespace Sw
open PySem PySem.Spec PyProof.Rows L2
abbrev sLeast : Stmt := top 15
/-! ### what least tells -/
/-- the least places of their classes, below i -/
def own (B : Exs) (n i : Nat) : List Nat := (List.range i).filter fun u => decide (cls B n u = u)
theorem own_succ (B : Exs) (n i : Nat) : own B n (i + 1) = own B n i ++ (if cls B n i = i then [i] else []) := by
  unfold own
  rw [List.range_succ, List.filter_append]
  by_cases h : cls B n i = i
  · simp [h]
  · simp [h]
theorem own_len (B : Exs) (n i : Nat) : (own B n i).length ≤ i := by
  unfold own
  have := List.length_filter_le (fun u => decide (cls B n u = u)) (List.range i)
  rw [List.length_range] at this
  exact this
theorem own_lt {B : Exs} {n i u : Nat} (h : u ∈ own B n i) : u < i := by
  unfold own at h
  exact List.mem_range.mp (List.mem_filter.mp h).1
/-- of each exit the class to which it leads, and by which exit -/
def told (B : Exs) (n : Nat) (es : List (Nat × Nat)) : List Nat := es.flatMap fun p => [cls B n p.1, p.2]
theorem told_snoc (B : Exs) (n : Nat) (es : List (Nat × Nat)) (p : Nat × Nat) : told B n (es ++ [p]) = told B n es ++ [cls B n p.1, p.2] := by
  unfold told
  rw [List.flatMap_append]; simp
theorem told_len (B : Exs) (n : Nat) (es : List (Nat × Nat)) : (told B n es).length = 2 * es.length := by
  induction es using snoc_ind with
  | h0 => rfl
  | hs l x ih => rw [told_snoc, List.length_append, List.length_append, ih]; simp; omega
/-- of each class its least place, its exits -/
def rowsOf (B : Exs) (n : Nat) (us : List Nat) : List Nat := us.flatMap fun u => u :: (B u).length :: told B n (B u)
theorem rowsOf_snoc (B : Exs) (n : Nat) (us : List Nat) (u : Nat) : rowsOf B n (us ++ [u]) = rowsOf B n us ++ [u, (B u).length] ++ told B n (B u) := by
  unfold rowsOf
  rw [List.flatMap_append]; simp
theorem rowsOf_len {B : Exs} {n c : Nat} (us : List Nat) (h : ∀ u ∈ us, (B u).length ≤ c) : (rowsOf B n us).length ≤ us.length * (2 + 2 * c) := by
  induction us using snoc_ind with
  | h0 => simp [rowsOf]
  | hs l x ih =>
    have h1 := ih fun u hu => h u (List.mem_append_left _ hu)
    have h2 := h x (by simp)
    rw [rowsOf_snoc, List.length_append, List.length_append, told_len, List.length_append, Nat.add_mul]
    simp only [List.length_cons, List.length_nil]
    omega
theorem range_got {α β : Type} (g : α → List β) (es : List α) : (List.range es.length).flatMap (fun e => match es[e]? with | some p => g p | none => []) = es.flatMap g := by
  induction es using snoc_ind with
  | h0 => rfl
  | hs l x ih =>
    rw [List.length_append, List.length_cons, List.length_nil, Nat.zero_add, List.range_succ, List.flatMap_append, List.flatMap_append]
    congr 1
    · rw [← ih]
      rw [List.flatMap_def, List.flatMap_def]
      congr 1
      apply List.map_congr_left
      intro i hi
      rw [List.mem_range] at hi
      rw [List.getElem?_append_left hi]
    · simp
theorem flatMap_congr' {α β : Type} {f g : α → List β} : ∀ {l : List α}, (∀ x ∈ l, f x = g x) → l.flatMap f = l.flatMap g
  | [], _ => rfl
  | x :: l, h => by
    rw [List.flatMap_cons, List.flatMap_cons, h x List.mem_cons_self, flatMap_congr' fun y hy => h y (List.mem_cons_of_mem _ hy)]
theorem cls_getD {B : Exs} {n u : Nat} (h : u < n) : ((List.range n).map (cls B n)).getD u 0 = cls B n u := by
  rw [List.getD_eq_getElem?_getD, List.getElem?_map, List.getElem?_range h]; rfl
theorem kinds_own {n : Nat} {ls : List (Nat × Nat)} (hl : ∀ p ∈ ls, p.1 < n ∧ p.2 < n) : ((List.range n).filter fun u => (Ks536.classes ⟨n, ls⟩).getD u 0 == u) = own (ent ls) n n := by
  unfold own
  rw [classes_cls hl]
  apply List.filter_congr
  intro u hu
  rw [List.mem_range] at hu
  rw [cls_getD hu]
  rfl
theorem kinds_rows {n : Nat} {ls : List (Nat × Nat)} (hl : ∀ p ∈ ls, p.1 < n ∧ p.2 < n) : Ks536.kinds ⟨n, ls⟩ = rowsOf (ent ls) n (own (ent ls) n n) := by
  unfold Ks536.kinds rowsOf
  simp only
  rw [kinds_own hl]
  refine flatMap_congr' fun u hu => ?_
  rw [degree_ent]
  refine congrArg (fun z => u :: (ent ls u).length :: z) ?_
  refine Eq.trans ?_ (range_got (fun p : Nat × Nat => [cls (ent ls) n p.1, p.2]) (ent ls u))
  refine flatMap_congr' fun e he => ?_
  rw [out_ent]
  cases h : (ent ls u)[e]? with
  | none => rfl
  | some p =>
    simp only
    rw [classes_cls hl, cls_getD (ent_lt n ls hl u p (List.mem_of_getElem? h))]
theorem spec_least (n : Nat) (l : List Nat) : Ks536Neutral.out (Ks536.answer (.least n l)) = if isNet n l = true then ((own (ent (pairs l)) n n).length :: rowsOf (ent (pairs l)) n (own (ent (pairs l)) n n)).map Int.ofNat else [-22] := by
  show Ks536Neutral.out (Ks536.net n l _) = _
  unfold Ks536.net
  cases hn : isNet n l with
  | false =>
    rw [netOf_none hn]
    simp [Ks536Neutral.out, Ks536.no]
  | true =>
    obtain ⟨e, _, _, _, hso⟩ := netOf_some hn
    rw [e]
    simp only [if_true]
    have hls : ∀ p ∈ pairs l, p.1 < n ∧ p.2 < n := fun p hp => ⟨(hso.1 p hp).1, (hso.1 p hp).2.1⟩
    simp only [Ks536Neutral.out, kinds_own hls, kinds_rows hls, List.map_cons]
    rfl
section
variable {P : Program} {w : World} {K : PySem.W.Frag} {mg : Str → Option Value} {base : Heap}
/-! ### least -/
theorem scLeast : FnScope ["n", "net", "table", "class_of", "place", "least_places", "answer", "least_place", "entry"] ["n", "net"] (defScope sLeast) := ⟨rfl, rfl, rfl, by decide +kernel, rfl, by decide +kernel, by decide +kernel⟩
def spLeast (K : PySem.W.Frag) : Sp := fun vs H Q _ => ∃ (a : Addr) (n : Nat) (l : List Nat), vs = [vi n, .ref a] ∧ SqL K H a (l.map vi) ∧ l.length ≤ 24 ∧
  ∀ (H' : Hp) (p : Addr), H' p = some (.lst ((Ks536Neutral.out (Ks536.answer (.least n l))).map V.int)) → Q (.ref p) H'
theorem ok_least {f f1 f2 f3 f4 : Addr} {fd fd1 fd2 fd3 fd4 : FuncData} {t1 : Tok} (F : Fun K "least" "least" sLeast f fd) (mr : mg "range" = none) (ml : mg "len" = none) (c1 : mg "NOT_A_NET" = some (.int (-22) t1))
    (D1 : Def K mg "is_net" sNet ["n", "net"] f1 fd1) (G1 : FnOk P w K mg base CX0 3 f1 fd1 ["n", "net"] (spNet K))
    (D2 : Def K mg "links_of" sLinks ["net"] f2 fd2) (G2 : FnOk P w K mg base CX0 1 f2 fd2 ["net"] (spLinks K))
    (D3 : Def K mg "exit_table" sTable ["n", "links"] f3 fd3) (G3 : FnOk P w K mg base CX0 1 f3 fd3 ["n", "links"] spTable)
    (D4 : Def K mg "class_of_each" sCls ["table"] f4 fd4) (G4 : FnOk P w K mg base CX0 4 f4 fd4 ["table"] spCls) : FnOk P w K mg base CX0 5 f fd ["n", "net"] (spLeast K) := by
  refine F.ok scLeast (fun vs H Q E h => ?_) (fun cdv A outer s H vs Q E hr h => ?_)
  · obtain ⟨a, n, l, rfl, _⟩ := h
    rfl
  · obtain ⟨a, n, l, rfl, hS, hlen, k⟩ := h
    have hr1 : Room 1 _ := hr.mono (by decide)
    have hr3 : Room 3 _ := hr.mono (by decide)
    refine ⟨_, pss_cons (ps_if (pt_not (pt_val (pe_call G1 hr3 rfl D1.g D1.F.kp D1.b .nil pass0 (pa_cons (pv 0) (pa_cons (pv 1) pa_nil))))) (pss_one (ps_ret (pe_lst (pa_cons (pe_glob (v := .int (-22)) rfl c1 ⟨_, rfl⟩) pa_nil)))) pss_nil)
      (pss_cons (ps_set (i := 2) scLeast.nd rfl (.inl rfl) (pe_call G3 hr1 rfl D3.g D3.F.kp D3.b .nil pass0 (pa_cons (pv 0) (pa_cons (pe_call G2 hr1 rfl D2.g D2.F.kp D2.b .nil pass0 (pa_cons (pv 1) pa_nil)) pa_nil))))
      (pss_cons (ps_set (i := 3) scLeast.nd rfl (.inr rfl) (pe_call G4 hr rfl D4.g D4.F.kp D4.b .nil pass0 (pa_cons (pv 2) pa_nil)))
      (pss_cons (ps_setLc (i := 5) (own := [("place", 4)]) (g := gName 4) (by rfl) scLeast.nd rfl rfl (sw_true rfl rfl rfl (by decide +kernel)) (pi_range1 (by rfl) mr (pa_cons (pv 0) pa_nil))
        (blkOk_by (own := [("place", 4)]) (N := ["n", "net", "table", "class_of", "place", "least_places", "answer", "least_place", "entry"]) (sc := defScope sLeast) (by decide +kernel))
        (fun _ _ _ _ _ => pg_name (i := 4) scLeast.nd rfl (Or.inl rfl)) (fun _ _ _ _ _ => pts_one (pt_cmpR op_eq (pe_ix (ix_list : IxR _ (rIxL K)) (pv 3) (pv 4) (fun _ _ => rfl)) (pv 4) (nomark _))) (fun _ _ _ _ _ => pv 4))
      (pss_cons (ps_set (i := 6) scLeast.nd rfl (.inl rfl) (pe_lst (pa_cons (pe_callB call_len_seq (by rfl) ml PySem.boot_len (pa_cons (pv 5) pa_nil)) pa_nil)))
      (pss_cons (ps_for PassesOwn.never rfl (pi_list (pv 5)) (pg_name (i := 7) scLeast.nd rfl (.inl rfl))
        (pss_cons (ps_expr (pe_bm PySem.F.plainAttrs_list PySem.F.slot_list_append PySem.F.type_list_append mt_append (pv 6) (pa_cons (pv 7) pa_nil)))
        (pss_cons (ps_expr (pe_bm PySem.F.plainAttrs_list PySem.F.slot_list_append PySem.F.type_list_append mt_append (pv 6) (pa_cons (pe_callB call_len_seq (by rfl) ml PySem.boot_len (pa_cons (pe_ix ix_list (pv 2) (pv 7) (fun _ _ => rfl)) pa_nil)) pa_nil)))
        (pss_one (ps_for PassesOwn.never rfl (pi_list (pe_ix ix_list (pv 2) (pv 7) (fun _ _ => rfl))) (pg_tup rfl (pgs_cons (pg_name (i := 4) scLeast.nd rfl (.inl rfl)) (pgs_cons (pg_name (i := 8) scLeast.nd rfl (.inl rfl)) pgs_nil)))
          (pss_cons (ps_expr (pe_bm PySem.F.plainAttrs_list PySem.F.slot_list_append PySem.F.type_list_append mt_append (pv 6) (pa_cons (pe_ix ix_list (pv 3) (pv 4) (fun _ _ => rfl)) pa_nil)))
          (pss_one (ps_expr (pe_bm PySem.F.plainAttrs_list PySem.F.slot_list_append PySem.F.type_list_append mt_append (pv 6) (pa_cons (pv 8) pa_nil))))))))))
      (pss_one (ps_ret (pv 6)))))))), ?_⟩
    rw [spec_least] at k
    refine ⟨_, rfl, _, rfl, a, n, l, rfl, hS, hlen, fun H1 s1 => ⟨_, rfl, ?_⟩⟩
    cases hn : isNet n l with
    | false =>
      rw [hn, if_neg Bool.false_ne_true] at k
      refine iteT ?_
      refine ⟨(by show 1 ≤ sizeLine; decide), fun p np => k _ p ?_⟩
      rw [upd_same]
      rfl
    | true =>
      rw [hn, if_pos rfl] at k
      refine iteF ?_
      obtain ⟨_, ⟨hn1, hn7⟩, hev, hl20, hso⟩ := netOf_some hn
      have hpl := pairs_len l
      have hls : ∀ p ∈ pairs l, p.1 < n ∧ p.2 < n := fun p hp => ⟨(hso.1 p hp).1, (hso.1 p hp).2.1⟩
      have W1 := ent_within hls
      have hel : ∀ u, (ent (pairs l) u).length ≤ 12 := fun u => Nat.le_trans (ent_len _ _) (by omega)
      -- table = exit_table(n, links_of(net))
      refine ⟨_, rfl, _, rfl, a, l, rfl, s1.seq hS, hlen, hev, fun H2 q s2 nq hP => ?_⟩
      refine ⟨q, n, pairs l, rfl, hP, hn7, by omega, hso.1, fun H3 t rs s3 nt hTab => ?_⟩
      -- class_of = class_of_each(table)
      refine ⟨_, rfl, t, rs, n, ent (pairs l), rfl, hTab.rows, by omega, by omega, fun x _ => Nat.le_trans (hel x) (by omega), W1, fun H4 c s4 hc => ?_⟩
      have hTab4 : RowsAt H4 t rs ((List.range n).map (ent (pairs l))) := (hTab.same s4).rows
      have hcg : ∀ u, u < n → (((List.range n).map (cls (ent (pairs l)) n)).map vi)[u]? = some (vi (cls (ent (pairs l)) n u)) := fun u hu => map_get (map_get (List.getElem?_range hu))
      generalize ent (pairs l) = B at *
      -- least_places = [..]
      refine ⟨_, rfl, (n : Int), rfl, by omega, by omega, fun D nD => ?_⟩
      refine lc_range (lo := 0) (n := ((n : Int)).toNat) (fun i H' => Same H4 H' ∧ H' D = some (.lst ((own B n i).map vi)))
        ⟨same_upd nD, upd_same⟩ (fun i H' hi h => ?_) (fun H5 h => ?_)
      · obtain ⟨sm, hD⟩ := h
        have hin : i < n := by omega
        have ez : (0 : Int) + (i : Int) = (i : Int) := by omega
        rw [ez]
        refine ⟨rfl, ?_⟩
        refine ⟨_, rfl, _, rfl, c, _, _, _, rfl, rfl, SqL.of (sm _ _ hc), at_of (j := i) rfl (hcg i hin), _, rfl, rfl, _, rfl, ?_⟩
        by_cases he : cls B n i = i
        · have e1 : decide (vi (cls B n i) = vi i) = true := decide_eq_true (by rw [he])
          rw [e1]
          refine iteT ?_
          refine ⟨_, rfl, _, hD, ?_, same_put sm nD, ?_⟩
          · rw [List.length_map]
            exact Nat.lt_of_le_of_lt (Nat.le_trans (own_len B n i) (show i ≤ 100 by omega)) (by decide)
          · rw [upd_same, own_succ, if_pos he, List.map_append]
            rfl
        · have e1 : decide (vi (cls B n i) = vi i) = false := by
            rw [decide_eq_false]
            intro z
            injection z with z
            exact he (Int.ofNat.inj z)
          rw [e1]
          refine iteF ?_
          refine ⟨sm, ?_⟩
          rw [own_succ, if_neg he, List.append_nil]
          exact hD
      · obtain ⟨s5, hD⟩ := h
        rw [show ((n : Int)).toNat = n from rfl] at hD
        have hol := own_len B n n
        have hot : ∀ u ∈ own B n n, u < n := fun u hu => own_lt hu
        generalize own B n n = L at *
        -- answer = [len(least_places)]
        refine ⟨_, rfl, D, _, rfl, .inl (SqL.of hD), (by show 1 ≤ sizeLine; decide), fun p np => ?_⟩
        rw [List.length_map]
        have hsz : ∀ i, (rowsOf B n (L.take i)).length ≤ 7 * 26 := fun i => by
          have h1 := rowsOf_len (B := B) (n := n) (c := 12) (L.take i) fun u _ => hel u
          have h2 : (L.take i).length ≤ 7 := by rw [List.length_take]; omega
          exact Nat.le_trans h1 (Nat.mul_le_mul_right 26 h2)
        -- for least_place in least_places
        refine ⟨_, rfl, D, rfl, ⟨_, SqL.of (same_upd np _ _ hD)⟩, for_list (K := K) (a := D) (xs := L.map vi)
          (fun i σ H' => ∃ y4 y7 y8 : Option V, σ = [some (vi n), some (.ref a), some (.ref t), some (.ref c), y4, some (.ref D), some (.ref p), y7, y8] ∧ Same H5 H' ∧ H' p = some (.lst ((L.length :: rowsOf B n (L.take i)).map vi)))
          ⟨none, none, none, rfl, same_upd np, upd_same⟩ (fun i σ H' _ ⟨_, _, _, _, s6, _⟩ => SqL.of (s6 _ _ hD)) ?_ ?_⟩
        · rintro i y σ H' hi ⟨y4, y7, y8, rfl, s6, hp⟩
          obtain ⟨u, hu, rfl⟩ := vi_get hi
          have hun : u < n := hot u (List.mem_of_getElem? hu)
          have s46 := s5.trans s6
          have hz := hsz i
          obtain ⟨r, ts, hr', hl, hT⟩ := hTab4.get (rowB_get B hun)
          have hBl := hel u
          have s6' : ∀ o, Same H4 (upd H' p o) := fun o => s5.trans (same_put s6 np)
          -- answer.append(least_place)
          refine ⟨_, rfl, .inl ⟨rfl, _, SqL.of hp⟩, _, rfl, p, _, _, rfl, rfl, hp, ?_, ?_⟩
          · rw [List.length_map, List.length_cons]
            exact Nat.lt_of_le_of_lt (show _ ≤ 1000 by omega) (by decide)
          -- answer.append(len(table[least_place]))
          refine ⟨_, rfl, .inl ⟨rfl, _, SqL.of upd_same⟩, _, rfl, _, rfl, t, _, _, _, rfl, rfl, SqL.of (s6' _ _ _ hTab4.lst), at_of (j := u) rfl (map_get hr'), r, _, rfl, .inl (SqL.of (s6' _ _ _ hl)), p, _, _, rfl, rfl, upd_same, ?_, ?_⟩
          · rw [List.length_append, List.length_map, List.length_cons]
            exact Nat.lt_of_le_of_lt (show _ ≤ 1000 by simp only [List.length_cons, List.length_nil]; omega) (by decide)
          have s7 := same_put (o := .lst (((L.length :: rowsOf B n (L.take i)).map vi ++ [vi u]) ++ [.int (((ts.map V.ref).length : Nat) : Int)])) (same_put (o := .lst ((L.length :: rowsOf B n (L.take i)).map vi ++ [vi u])) s6 np) np
          have s47 := s5.trans s7
          -- for place, entry in table[least_place]
          refine ⟨_, rfl, _, rfl, t, _, _, _, rfl, rfl, SqL.of (s47 _ _ hTab4.lst), at_of (j := u) rfl (map_get hr'), r, rfl, ⟨_, SqL.of (s47 _ _ hl)⟩, for_list (K := K) (a := r) (xs := ts.map V.ref)
            (fun j σ H2 => ∃ y4 y8 : Option V, σ = [some (vi n), some (.ref a), some (.ref t), some (.ref c), y4, some (.ref D), some (.ref p), some (vi u), y8] ∧ Same H5 H2 ∧ H2 p = some (.lst ((L.length :: (rowsOf B n (L.take i) ++ [u, (B u).length] ++ told B n ((B u).take j))).map vi)))
            ⟨_, _, rfl, s7, ?_⟩ (fun j σ H2 _ ⟨_, _, _, s8, _⟩ => SqL.of (s5.trans s8 _ _ hl)) ?_ ?_⟩
          · rw [upd_same, List.length_map, hT.1]
            simp [told]
          · rintro j y σ H2 hj ⟨z4, z8, rfl, s8, hp2⟩
            obtain ⟨x, hx, rfl⟩ := ref_get hj
            obtain ⟨e, he⟩ := get_of_len hT.1 hx
            have s48 := s5.trans s8
            have hxt := s48 _ _ (hT.2 j x e hx he)
            have hen : e.1 < n := W1 u hun e (List.mem_of_getElem? he)
            have htl := told_len B n ((B u).take j)
            rw [List.length_take] at htl
            refine ⟨x, _, rfl, SqT.of hxt, rfl, _, _, rfl, _, _, rfl, rfl, ?_⟩
            -- answer.append(class_of[place])
            refine ⟨_, rfl, .inl ⟨rfl, _, SqL.of hp2⟩, _, rfl, _, rfl, c, _, _, _, rfl, rfl, SqL.of (s48 _ _ hc), at_of (j := e.1) rfl (hcg e.1 hen), p, _, _, rfl, rfl, hp2, ?_, ?_⟩
            · rw [List.length_map, List.length_cons, List.length_append, List.length_append, htl]
              exact Nat.lt_of_le_of_lt (show _ ≤ 1000 by simp only [List.length_cons, List.length_nil]; omega) (by decide)
            -- answer.append(entry)
            refine ⟨_, rfl, .inl ⟨rfl, _, SqL.of upd_same⟩, _, rfl, p, _, _, rfl, rfl, upd_same, ?_, ?_⟩
            · rw [List.length_append, List.length_map, List.length_cons, List.length_append, List.length_append, htl]
              exact Nat.lt_of_le_of_lt (show _ ≤ 1000 by simp only [List.length_cons, List.length_nil]; omega) (by decide)
            · refine ⟨_, _, rfl, same_put (same_put s8 np) np, ?_⟩
              rw [upd_same, take_snoc he, told_snoc]
              simp
          · rintro σ H2 ⟨z4, z8, rfl, s8, hp2⟩
            rw [List.length_map, hT.1, List.take_length] at hp2
            refine ⟨_, _, _, rfl, s8, ?_⟩
            rw [take_snoc hu, rowsOf_snoc]
            exact hp2
        · rintro σ H' ⟨y4, y7, y8, rfl, s6, hp⟩
          rw [List.length_map, List.take_length] at hp
          refine ⟨_, rfl, k H' p ?_⟩
          rw [hp, List.map_map]
          rfl
end
end Sw
namespace Sw
open PySem PySem.Spec PyProof.Rows L2
/-! ### the request's numbers -/
theorem nat_of {x : Int} (h : PySem.W.Codec.inInt 0 4294967295 x = true) : ((x.toNat : Nat) : Int) = x := by
  unfold PySem.W.Codec.inInt at h
  simp only [Bool.and_eq_true, decide_eq_true_eq] at h
  omega
theorem nats_of : ∀ {l : List Int}, l.all (PySem.W.Codec.inInt 0 4294967295) = true → l.map V.int = (l.map Int.toNat).map vi
  | [], _ => rfl
  | x :: r, h => by
    rw [List.all_cons, Bool.and_eq_true] at h
    rw [List.map_cons, List.map_cons, List.map_cons, nats_of h.2]
    show V.int x :: _ = V.int ((x.toNat : Nat) : Int) :: _
    rw [nat_of h.1]
/-! ### what the top has written -/
theorem def_mk {K : PySem.W.Frag} {h : Heap} {mg : Str → Option Value} {x : Str} {st : Stmt} {ps : List Str} {f : Addr} {oc : Value} {od an : Option Addr} {sl : Array (Option Value)} {kV dc pm cd ct : Value} (X : K.In h) (G : h.Ns mainGlobals mg)
    (a : PySem.W.nsIn K mainGlobals x = some (some (.ref f))) (l : K.lookup f = some ⟨oc, od, .func (PySem.W.fnOf x x (defArgs st) (defBody st) (defScope st) .none kV dc pm an cd ct), sl⟩) (c : PySem.W.codeIn K cd x = true) (k : PySem.W.keepIn K (.ref f) = true)
    (b : ∀ (kV doc pm : Value) (an : Option Addr) (cdv ct : Value) (us : List Value), us.length = ps.length → bindArgs (PySem.W.fnOf x x (defArgs st) (defBody st) (defScope st) .none kV doc pm an cdv ct) ⟨us, []⟩ = pure (ps.zip us)) :
    ∃ (f : Addr) (fd : FuncData), Def K mg x st ps f fd ∧ ∀ (s : Shared) (us : List Value), us.length = ps.length → BindsTo s fd ⟨us, []⟩ (ps.zip us) :=
  ⟨f, _, ⟨fun_mk l c k, PySem.W.mg_of X G a, (fun_mk l c k).binds b⟩, fun s us hu => .of_eq (b _ _ _ _ _ _ us hu)⟩
end Sw
open PySem PySem.W PyProof.Rows
set_option maxRecDepth 100000 in
set_option maxHeartbeats 0 in
theorem PySem.Challenge.cw_seenonway_s08_least_holds : PySem.Challenge.rw_seenonway_s08_least.Holds := by
  w_on; k_headS; (case hw => exact ⟨[.int 0, .list []], by decide +kernel, by decide +kernel⟩)
  k_fillS
  refine L2.walk_specK (r := PySem.Challenge.rw_seenonway_s08_least) (k := 5) (CX := L2.CX0) (ps := ["n", "net"]) (sp := Sw.spLeast) (by decide +kernel) rfl rfl ⟨rfl, by decide, by decide⟩ (fun w h Y => PySem.W.kIn_of Y) ?F ?S (fun _ _ _ _ z => z)
  case F =>
    intro w mg fa h Y KX G hmg
    obtain ⟨f1, fd1, D1, B1⟩ := by
      refine' Sw.def_mk (x := "links_of") (st := Sw.sLinks) (ps := ["net"]) KX G ?a ?l ?c ?k (fun _ _ _ _ _ _ us hl => match us, hl with | [_], _ => rfl)
      (case a => k_is); (case l => k_is); (case c => k_is); (case k => k_is)
    obtain ⟨f2, fd2, D2, B2⟩ := by
      refine' Sw.def_mk (x := "links_are_sound") (st := Sw.sSound) (ps := ["n", "links"]) KX G ?a ?l ?c ?k (fun _ _ _ _ _ _ us hl => match us, hl with | [_, _], _ => rfl)
      (case a => k_is); (case l => k_is); (case c => k_is); (case k => k_is)
    obtain ⟨f3, fd3, D3, B3⟩ := by
      refine' Sw.def_mk (x := "exit_table") (st := Sw.sTable) (ps := ["n", "links"]) KX G ?a ?l ?c ?k (fun _ _ _ _ _ _ us hl => match us, hl with | [_, _], _ => rfl)
      (case a => k_is); (case l => k_is); (case c => k_is); (case k => k_is)
    obtain ⟨f4, fd4, D4, B4⟩ := by
      refine' Sw.def_mk (x := "steps_from") (st := Sw.sSteps) (ps := ["table", "start"]) KX G ?a ?l ?c ?k (fun _ _ _ _ _ _ us hl => match us, hl with | [_, _], _ => rfl)
      (case a => k_is); (case l => k_is); (case c => k_is); (case k => k_is)
    obtain ⟨f5, fd5, D5, B5⟩ := by
      refine' Sw.def_mk (x := "all_hang_together") (st := Sw.sHang) (ps := ["table"]) KX G ?a ?l ?c ?k (fun _ _ _ _ _ _ us hl => match us, hl with | [_], _ => rfl)
      (case a => k_is); (case l => k_is); (case c => k_is); (case k => k_is)
    obtain ⟨f6, fd6, D6, B6⟩ := by
      refine' Sw.def_mk (x := "is_net") (st := Sw.sNet) (ps := ["n", "net"]) KX G ?a ?l ?c ?k (fun _ _ _ _ _ _ us hl => match us, hl with | [_, _], _ => rfl)
      (case a => k_is); (case l => k_is); (case c => k_is); (case k => k_is)
    obtain ⟨f7, fd7, D7, B7⟩ := by
      refine' Sw.def_mk (x := "least_with_the_same") (st := Sw.sLeastW) (ps := ["sights"]) KX G ?a ?l ?c ?k (fun _ _ _ _ _ _ us hl => match us, hl with | [_], _ => rfl)
      (case a => k_is); (case l => k_is); (case c => k_is); (case k => k_is)
    obtain ⟨f8, fd8, D8, B8⟩ := by
      refine' Sw.def_mk (x := "groups_at_once") (st := Sw.sOnce) (ps := ["table"]) KX G ?a ?l ?c ?k (fun _ _ _ _ _ _ us hl => match us, hl with | [_], _ => rfl)
      (case a => k_is); (case l => k_is); (case c => k_is); (case k => k_is)
    obtain ⟨f9, fd9, D9, B9⟩ := by
      refine' Sw.def_mk (x := "groups_one_step_on") (st := Sw.sStep) (ps := ["table", "groups"]) KX G ?a ?l ?c ?k (fun _ _ _ _ _ _ us hl => match us, hl with | [_, _], _ => rfl)
      (case a => k_is); (case l => k_is); (case c => k_is); (case k => k_is)
    obtain ⟨f10, fd10, D10, B10⟩ := by
      refine' Sw.def_mk (x := "groups_by_steps") (st := Sw.sBy) (ps := ["table"]) KX G ?a ?l ?c ?k (fun _ _ _ _ _ _ us hl => match us, hl with | [_], _ => rfl)
      (case a => k_is); (case l => k_is); (case c => k_is); (case k => k_is)
    obtain ⟨f11, fd11, D11, B11⟩ := by
      refine' Sw.def_mk (x := "class_of_each") (st := Sw.sCls) (ps := ["table"]) KX G ?a ?l ?c ?k (fun _ _ _ _ _ _ us hl => match us, hl with | [_], _ => rfl)
      (case a => k_is); (case l => k_is); (case c => k_is); (case k => k_is)
    obtain ⟨f12, fd12, D12, B12⟩ := by
      refine' Sw.def_mk (x := "least") (st := Sw.sLeast) (ps := ["n", "net"]) KX G ?a ?l ?c ?k (fun _ _ _ _ _ _ us hl => match us, hl with | [_, _], _ => rfl)
      (case a => k_is); (case l => k_is); (case c => k_is); (case k => k_is)
    have c1 : ∃ v, mg "MOST_PLACES" = some v ∧ L2.RelV (.int 7) v := by
      refine' ⟨_, PySem.W.mg_of KX G ?ca1, ?cb1⟩
      (case ca1 => k_is)
      case cb1 => exact ⟨_, rfl⟩
    obtain ⟨_, c1, t1, rfl⟩ := c1
    have c2 : ∃ v, mg "MOST_LINKS" = some v ∧ L2.RelV (.int 10) v := by
      refine' ⟨_, PySem.W.mg_of KX G ?ca2, ?cb2⟩
      (case ca2 => k_is)
      case cb2 => exact ⟨_, rfl⟩
    obtain ⟨_, c2, t2, rfl⟩ := c2
    have c3 : ∃ v, mg "NOT_A_NET" = some v ∧ L2.RelV (.int (-22)) v := by
      refine' ⟨_, PySem.W.mg_of KX G ?ca3, ?cb3⟩
      (case ca3 => k_is)
      case cb3 => exact ⟨_, rfl⟩
    obtain ⟨_, c3, t3, rfl⟩ := c3
    have m_range : mg "range" = none := by
      refine' PySem.W.mg_none_of KX G ?a
      (case a => k_is)
    have m_len : mg "len" = none := by
      refine' PySem.W.mg_none_of KX G ?a
      (case a => k_is)
    have m_min : mg "min" = none := by
      refine' PySem.W.mg_none_of KX G ?a
      (case a => k_is)
    have m_max : mg "max" = none := by
      refine' PySem.W.mg_none_of KX G ?a
      (case a => k_is)
    have e := hmg.symm.trans D12.g
    cases e
    refine ⟨fd12, B12, fun base _ _ => ?_⟩
    have G1 := Sw.ok_links (P := PySem.Challenge.rw_seenonway_s08_least.prog) (w := w) (mg := mg) (base := base) D1.F m_range m_len
    have G2 := Sw.ok_sound (P := PySem.Challenge.rw_seenonway_s08_least.prog) (w := w) (mg := mg) (base := base) D2.F m_min m_max
    have G3 := Sw.ok_table (P := PySem.Challenge.rw_seenonway_s08_least.prog) (w := w) (mg := mg) (base := base) D3.F m_range m_len
    have G4 := Sw.ok_steps (P := PySem.Challenge.rw_seenonway_s08_least.prog) (w := w) (mg := mg) (base := base) D4.F m_len
    have G5 := Sw.ok_hang (P := PySem.Challenge.rw_seenonway_s08_least.prog) (w := w) (mg := mg) (base := base) D5.F m_len D4 G4
    have G6 := Sw.ok_net (P := PySem.Challenge.rw_seenonway_s08_least.prog) (w := w) (mg := mg) (base := base) D6.F m_len c1 c2 D1 G1 D2 G2 D3 G3 D5 G5
    have G7 := Sw.ok_leastW (P := PySem.Challenge.rw_seenonway_s08_least.prog) (w := w) (mg := mg) (base := base) D7.F
    have G8 := Sw.ok_once (P := PySem.Challenge.rw_seenonway_s08_least.prog) (w := w) (mg := mg) (base := base) D8.F m_len D7 G7
    have G9 := Sw.ok_step (P := PySem.Challenge.rw_seenonway_s08_least.prog) (w := w) (mg := mg) (base := base) D9.F D7 G7
    have G10 := Sw.ok_by (P := PySem.Challenge.rw_seenonway_s08_least.prog) (w := w) (mg := mg) (base := base) D10.F D8 G8 D9 G9
    have G11 := Sw.ok_cls (P := PySem.Challenge.rw_seenonway_s08_least.prog) (w := w) (mg := mg) (base := base) D11.F D10 G10
    exact Sw.ok_least (P := PySem.Challenge.rw_seenonway_s08_least.prog) (w := w) (mg := mg) (base := base) D12.F m_range m_len c3 D6 G6 D1 G1 D3 G3 D11 G11
  case S =>
    intro K H xs a hO hwi hask hx
    obtain ⟨x_n, x_net, ⟨⟩⟩ := a
    cases hx with
    | cons h1 hx =>
      cases hx with
      | cons h2 hx =>
        cases hx
        cases h1
        cases h2 with
        | @lst at_net _ _ hs_net ha_net =>
          have e := L2.ints_dw x_net _ ha_net
          subst e
          have q : (Codec.inInt 0 4294967295 x_n && ((Codec.inLen 0 24 x_net && x_net.all (Codec.inInt 0 4294967295)) && true)) = true := hwi
          simp only [Bool.and_eq_true] at q
          obtain ⟨q_n, ⟨ql_net, q_net⟩, _⟩ := q
          have n_n := Sw.nat_of q_n
          have n_net := Sw.nats_of q_net
          have l_net := (Codec.inNat_iff.mp ql_net).2
          refine ⟨at_net, x_n.toNat, x_net.map Int.toNat, ?_, ?_, ?_, fun H' p hp => ?_⟩
          · show [L2.V.int x_n, L2.V.ref at_net] = [L2.V.int ((x_n.toNat : Nat) : Int), L2.V.ref at_net]
            rw [n_n]
          · rw [← n_net]; exact hs_net
          · rw [List.length_map]; exact l_net
          · exact .lst (L2.SqL.of hp) (L2.dw_ints _)
#print axioms PySem.Challenge.cw_seenonway_s08_least_holds
